package dhcp_test

import (
	"bytes"
	"math"
	"slices"
	"testing"

	"gatehouse/api"
	"gatehouse/dhcp"
	"gatehouse/opt"
)

// plain is a REQUEST in which all bytes of the fields are different.
func plain() dhcp.Message {
	return dhcp.Message{
		Op: 1, Hops: 3, Xid: 0x04050607, Secs: 0x0809, Flags: 0x8a0b,
		Client: api.Addr{12, 13, 14, 15}, Your: api.Addr{16, 17, 18, 19},
		Server: api.Addr{20, 21, 22, 23}, Relay: api.Addr{24, 25, 26, 27},
		Mac:  api.Mac{28, 29, 30, 31, 32, 33},
		Opts: list(option(53, 3), option(50, 9, 8, 7, 6)),
	}
}

// plainBytes is plain, byte by byte.
func plainBytes() []byte {
	b := []byte{1, 1, 6, 3, 4, 5, 6, 7, 8, 9, 0x8a, 11}
	for i := 12; i < 34; i++ {
		b = append(b, byte(i))
	}
	b = append(b, make([]byte, 202)...)
	b = append(b, 99, 130, 83, 99, 53, 1, 3, 50, 4, 9, 8, 7, 6, 255)
	return append(b, make([]byte, 300-len(b))...)
}

// withOpts is plain with other options.
func withOpts(l ...opt.Option) dhcp.Message {
	m := plain()
	m.Opts = l
	return m
}

// withTail is plainBytes with other bytes from 240 on.
func withTail(tail ...byte) []byte { return append(plainBytes()[:240:240], tail...) }

// changed is plainBytes with another byte at a place.
func changed(at int, v byte) []byte {
	b := plainBytes()
	b[at] = v
	return b
}

func option(code int, body ...byte) opt.Option { return opt.Option{Code: code, Body: body} }

// sized returns an option with n bytes.
func sized(code, n int) opt.Option { return opt.Option{Code: code, Body: noise(n, code+n)} }

func list(l ...opt.Option) []opt.Option { return l }

// noise returns n bytes that look irregular and depend on seed alone.
func noise(n, seed int) []byte {
	b := make([]byte, n)
	state := uint32(seed)*2654435761 + 1
	for i := range b {
		state = state*1664525 + 1013904223
		b[i] = byte(state >> 24)
	}
	return b
}

// same reports whether two messages agree: a nil Body and an empty one are
// equivalent.
func same(m, n dhcp.Message) bool {
	return sameHead(m, n) && slices.EqualFunc(m.Opts, n.Opts, func(o, p opt.Option) bool {
		return o.Code == p.Code && bytes.Equal(o.Body, p.Body)
	})
}

func sameHead(m, n dhcp.Message) bool {
	return m.Op == n.Op && m.Hops == n.Hops && m.Xid == n.Xid && m.Secs == n.Secs && m.Flags == n.Flags &&
		m.Client == n.Client && m.Your == n.Your && m.Server == n.Server && m.Relay == n.Relay && m.Mac == n.Mac
}

func checkGet(t *testing.T, b []byte, want dhcp.Message) {
	t.Helper()
	if m, e := dhcp.Get(b); e != api.OK || !same(m, want) {
		t.Errorf("P13.1: Get(%v): %+v, %d instead of %+v", b, m, e, want)
	}
}

func checkGetRefuses(t *testing.T, b []byte, want api.Errno) {
	t.Helper()
	m, e := dhcp.Get(b)
	if e != want {
		t.Errorf("P13.1: Get(%v): %d instead of %d", b, e, want)
	}
	if !same(m, dhcp.Message{}) {
		t.Errorf("R2: Get(%v) with the error %d: %+v", b, e, m)
	}
}

func checkPut(t *testing.T, m dhcp.Message, want []byte) {
	t.Helper()
	if b, e := dhcp.Put(m); e != api.OK || !bytes.Equal(b, want) {
		t.Errorf("P13.1: Put(%+v): %v, %d instead of %v", m, b, e, want)
	}
}

func checkPutRefuses(t *testing.T, m dhcp.Message, want api.Errno) {
	t.Helper()
	b, e := dhcp.Put(m)
	if e != want {
		t.Errorf("P13.1: Put(%+v): %d instead of %d", m, e, want)
	}
	if len(b) != 0 {
		t.Errorf("R2: Put(%+v) with the error %d: %v", m, e, b)
	}
}

func checkType(t *testing.T, m dhcp.Message, want int) {
	t.Helper()
	if n := dhcp.Type(m); n != want {
		t.Errorf("P13.1: Type(%+v): %d instead of %d", m, n, want)
	}
}

func TestExamplesOfTheChapter(t *testing.T) {
	checkGetRefuses(t, changed(239, 0), api.EFORM)
	checkPutRefuses(t, withOpts(), api.EARG)
	checkPutRefuses(t, dhcp.Message{}, api.EARG)
	checkType(t, withOpts(), 0)
	checkType(t, dhcp.Message{}, 0)
}

func TestGetAndPutOfOneMessage(t *testing.T) {
	checkGet(t, plainBytes(), plain())
	checkPut(t, plain(), plainBytes())
	reply := plain()
	reply.Op = 2
	checkGet(t, changed(0, 2), reply)
	checkPut(t, reply, changed(0, 2))
}

// TestZeroFields has nothing but an Op and a type.
func TestZeroFields(t *testing.T) {
	want := make([]byte, 300)
	copy(want, []byte{1, 1, 6})
	copy(want[236:], []byte{99, 130, 83, 99, 53, 1, 1, 255})
	m := dhcp.Message{Op: 1, Opts: list(option(53, 1))}
	checkPut(t, m, want)
	checkGet(t, want, m)
}

// TestGreatestFields has the greatest number that each field holds.
func TestGreatestFields(t *testing.T) {
	full := api.Addr{255, 255, 255, 255}
	m := dhcp.Message{
		Op: 2, Hops: 255, Xid: math.MaxUint32, Secs: 65535, Flags: 65535, Client: full, Your: full, Server: full, Relay: full,
		Mac: api.Mac{255, 255, 255, 255, 255, 255}, Opts: list(option(53, 8)),
	}
	want := append([]byte{2, 1, 6}, bytes.Repeat([]byte{255}, 31)...)
	want = append(want, make([]byte, 202)...)
	want = append(want, 99, 130, 83, 99, 53, 1, 8, 255)
	want = append(want, make([]byte, 56)...)
	checkPut(t, m, want)
	checkGet(t, want, m)
}

func TestGetOfTooFew(t *testing.T) {
	checkGetRefuses(t, nil, api.ESHORT)
	checkGetRefuses(t, []byte{}, api.ESHORT)
	for n := range 240 {
		checkGetRefuses(t, plainBytes()[:n], api.ESHORT)
		checkGetRefuses(t, make([]byte, n), api.ESHORT)
		checkGetRefuses(t, bytes.Repeat([]byte{255}, n), api.ESHORT)
	}
	for n := 240; n <= 249; n++ {
		checkGetRefuses(t, plainBytes()[:n], api.ESHORT)
	}
	for n := 250; n <= 300; n++ {
		checkGet(t, plainBytes()[:n], plain())
	}
}

// TestGetOfWrongBytes has, at each place that is the same in all messages, all
// other values.
func TestGetOfWrongBytes(t *testing.T) {
	for at, right := range map[int][]byte{0: {1, 2}, 1: {1}, 2: {6}, 236: {99}, 237: {130}, 238: {83}, 239: {99}} {
		for v := range 256 {
			if !bytes.Contains(right, []byte{byte(v)}) {
				checkGetRefuses(t, changed(at, byte(v)), api.EFORM)
			}
		}
	}
	swapped := plainBytes()
	swapped[1], swapped[2] = 6, 1
	checkGetRefuses(t, swapped, api.EFORM)
	turned := plainBytes()
	slices.Reverse(turned[236:240])
	checkGetRefuses(t, turned, api.EFORM)
}

// TestGetIgnoresOtherBytes has any byte where no field stands.
func TestGetIgnoresOtherBytes(t *testing.T) {
	for at := 34; at < 236; at++ {
		for v := range 256 {
			checkGet(t, changed(at, byte(v)), plain())
		}
	}
	b := plainBytes()
	copy(b[34:236], bytes.Repeat([]byte{99, 130, 83, 99, 53, 1, 1, 255}, 26))
	checkGet(t, b, plain())
	checkGet(t, append(plainBytes(), "behind"...), plain())
	checkGet(t, append(plainBytes()[:250], 53, 1, 4, 53, 9), plain())
}

// TestGetOfOrderedErrors has inputs for which several errors apply.
func TestGetOfOrderedErrors(t *testing.T) {
	for _, at := range []int{0, 1, 2, 236, 237, 238, 239} {
		checkGetRefuses(t, changed(at, 77)[:239], api.ESHORT)
		checkGetRefuses(t, changed(at, 77)[:240], api.EFORM)
		checkGetRefuses(t, changed(at, 77)[:249], api.EFORM)
		checkGetRefuses(t, append(changed(at, 77)[:240], 255), api.EFORM)
	}
	for _, tail := range [][]byte{nil, {0}, {53}, {53, 1}, {53, 2, 1, 255}, {53, 1, 9}, {53, 0}, {7, 1, 1}, {53, 1, 1}, {53, 1, 1, 50, 5, 1, 255}} {
		checkGetRefuses(t, withTail(tail...), api.ESHORT)
	}
}

func TestGetOfOptionsWithoutType(t *testing.T) {
	for _, tail := range [][]byte{
		{255}, {0, 0, 255}, {54, 1, 1, 255}, {52, 1, 1, 255}, {1, 1, 53, 255}, {53, 0, 255}, {53, 2, 1, 0, 255}, {53, 2, 0, 1, 255}, {53, 2, 1, 1, 255},
		{53, 4, 0, 0, 0, 1, 255}, {53, 1, 1, 53, 1, 1, 255}, {53, 1, 1, 50, 0, 53, 1, 3, 255}, {255, 53, 1, 1, 255}, {50, 3, 53, 1, 1, 255},
		{53, 1, 0, 53, 1, 1, 255}, {53, 1, 1, 53, 1, 0, 255}, {53, 0, 53, 0, 255},
	} {
		checkGetRefuses(t, withTail(tail...), api.EFORM)
	}
	for size := range 256 {
		if size != 1 {
			body := bytes.Repeat([]byte{1}, size)
			tail := append([]byte{53, byte(size)}, body...)
			checkGetRefuses(t, withTail(append(tail, 255)...), api.EFORM)
		}
	}
}

// TestGetOfEachType has all values of option 53.
func TestGetOfEachType(t *testing.T) {
	for v := range 256 {
		b := withTail(50, 0, 53, 1, byte(v), 7, 1, 2, 255)
		if v >= 1 && v <= 8 {
			checkGet(t, b, withOpts(option(50), option(53, byte(v)), option(7, 2)))
		} else {
			checkGetRefuses(t, b, api.EFORM)
		}
	}
}

// TestGetOfOptions has options in the forms that opt.Get accepts.
func TestGetOfOptions(t *testing.T) {
	checkGet(t, withTail(53, 1, 1, 255), withOpts(option(53, 1)))
	checkGet(t, withTail(0, 0, 53, 1, 1, 0, 255, 0), withOpts(option(53, 1)))
	checkGet(t, withTail(53, 0, 53, 1, 2, 255), withOpts(option(53, 2)))
	checkGet(t, withTail(53, 1, 2, 7, 0, 53, 0, 255), withOpts(option(53, 2), option(7)))
	checkGet(t, withTail(7, 1, 1, 53, 1, 5, 7, 2, 2, 3, 255), withOpts(option(7, 1, 2, 3), option(53, 5)))
	checkGet(t, withTail(254, 3, 53, 1, 1, 53, 1, 5, 1, 0, 255), withOpts(option(254, 53, 1, 1), option(53, 5), option(1)))
	checkGet(t, withTail(53, 1, 1, 255, 53, 1, 2, 255), withOpts(option(53, 1)))
}

// TestGetKnowsNoUpperLimit has more options than Put accepts.
func TestGetKnowsNoUpperLimit(t *testing.T) {
	for _, n := range []int{1200, 1201, 1500, 65536, 1 << 20} {
		body := noise(n, n)
		tail := []byte{53, 1, 1}
		for part := range slices.Chunk(body, 255) {
			tail = append(tail, 60, byte(len(part)))
			tail = append(tail, part...)
		}
		checkGet(t, withTail(append(tail, 255)...), withOpts(option(53, 1), option(60, body...)))
		checkGet(t, withTail(append([]byte{53, 1, 1, 255}, body...)...), withOpts(option(53, 1)))
	}
}

// TestPutOfSizes has a Body of each size up to the one with which the options
// have 1200 bytes.
func TestPutOfSizes(t *testing.T) {
	for n := range 1187 {
		m := withOpts(option(53, 4), sized(60, n))
		opts, e := opt.Put(m.Opts)
		if e != api.OK || opts[len(opts)-1] != 255 {
			t.Fatalf("P12.1: Put: %v, %d", opts, e)
		}
		want := withTail(opts...)
		if len(want) < 300 {
			want = append(want, make([]byte, 300-len(want))...)
		}
		checkPut(t, m, want)
		checkGet(t, want, m)
	}
}

// TestPutAtTheEnds has just as many bytes as a message has at least and at most.
func TestPutAtTheEnds(t *testing.T) {
	for n, size := range map[int]int{0: 300, 1: 300, 53: 300, 54: 300, 55: 301, 56: 302, 1186: 1440} {
		b, e := dhcp.Put(withOpts(option(53, 1), sized(60, n)))
		if e != api.OK || len(b) != size {
			t.Errorf("P13.1: Put with %d bytes: %d bytes, %d instead of %d bytes", n, len(b), e, size)
		}
	}
	checkPutRefuses(t, withOpts(option(53, 1), sized(60, 1187)), api.ELIMIT)
	checkPutRefuses(t, withOpts(sized(60, 2000), option(53, 1)), api.ELIMIT)
}

// wide are numbers outside of all fields. Many of them fit if they are cut to
// 8, 16 or 32 bits.
var wide = []int{
	-1, -2, -128, -255, -256, -32768, -65535, -65536, -65537, 65536, 65537, 1 << 17, 1<<24 + 1, 1<<31 - 1, 1 << 31, 1<<32 - 1, 1 << 32, 1<<32 + 1,
	1<<48 + 1, -1 << 32, -1<<32 + 1, 1 - 1<<48, math.MinInt32, math.MaxInt - 1, math.MaxInt, math.MinInt, math.MinInt + 1,
}

func TestPutOfWideNumbers(t *testing.T) {
	for _, v := range append(wide, 256, 257, 511, 512, 32768, 65534, 65535) {
		m := plain()
		m.Hops = v
		checkPutRefuses(t, m, api.EARG)
	}
	for _, v := range wide {
		m := plain()
		m.Secs = v
		checkPutRefuses(t, m, api.EARG)
		m = plain()
		m.Flags = v
		checkPutRefuses(t, m, api.EARG)
	}
	for _, v := range append(wide, 0, 3, 4, 5, 128, 129, 254, 255, 256, 257, 258, 1<<16+2, 1<<32+2, 2-256, 1-65536) {
		m := plain()
		m.Op = v
		checkPutRefuses(t, m, api.EARG)
	}
}

// TestEachNumber has all numbers that each field of one or two bytes holds.
func TestEachNumber(t *testing.T) {
	for v := range 256 {
		m := plain()
		m.Hops = v
		checkPut(t, m, changed(3, byte(v)))
		checkGet(t, changed(3, byte(v)), m)
	}
	for v := range 1 << 16 {
		secs, flags := plain(), plain()
		secs.Secs, flags.Flags = v, v
		secsBytes, flagsBytes := plainBytes(), plainBytes()
		secsBytes[8], secsBytes[9] = byte(v>>8), byte(v)
		flagsBytes[10], flagsBytes[11] = byte(v>>8), byte(v)
		checkPut(t, secs, secsBytes)
		checkGet(t, secsBytes, secs)
		checkPut(t, flags, flagsBytes)
		checkGet(t, flagsBytes, flags)
	}
}

// TestPutOfNoType has options that tell no type, although opt.Put accepts them.
func TestPutOfNoType(t *testing.T) {
	for _, l := range [][]opt.Option{
		nil, {}, list(option(53)), list(option(53, 0)), list(option(53, 9)), list(option(53, 255)), list(option(53, 1, 1)), list(option(53, 0, 1)),
		list(option(53, 1, 0)), list(option(52, 1)), list(option(54, 1), option(35, 1)), list(sized(53, 300)), list(option(50, 53, 1, 1)),
	} {
		checkPutRefuses(t, withOpts(l...), api.EARG)
		checkPutRefuses(t, withOpts(append(list(option(1, 2)), l...)...), api.EARG)
	}
}

// TestPutOfWrongOptions has a type, but options that opt.Put refuses.
func TestPutOfWrongOptions(t *testing.T) {
	typed := option(53, 1)
	for _, code := range append(wide, 0, 255, 256, 257, 309) {
		checkPutRefuses(t, withOpts(typed, option(code, 1)), api.EARG)
		checkPutRefuses(t, withOpts(option(code, 1), typed), api.EARG)
	}
	checkPutRefuses(t, withOpts(typed, typed), api.EARG)
	checkPutRefuses(t, withOpts(typed, option(53)), api.EARG)
	checkPutRefuses(t, withOpts(option(7), typed, option(7)), api.EARG)
}

// TestPutOfOrderedErrors has messages for which several errors apply.
func TestPutOfOrderedErrors(t *testing.T) {
	long := sized(60, 2000)
	checkPutRefuses(t, withOpts(long), api.EARG)
	checkPutRefuses(t, withOpts(option(53, 9), long), api.EARG)
	checkPutRefuses(t, withOpts(option(53, 1), long), api.ELIMIT)
	checkPutRefuses(t, withOpts(option(53, 1), long, option(255)), api.EARG)
	checkPutRefuses(t, withOpts(long, option(53, 1), option(53, 1)), api.EARG)
	for _, spoilt := range []func(m *dhcp.Message){
		func(m *dhcp.Message) { m.Op = 0 }, func(m *dhcp.Message) { m.Hops = 256 }, func(m *dhcp.Message) { m.Secs = 65536 }, func(m *dhcp.Message) { m.Flags = -1 },
	} {
		m := withOpts(option(53, 1), long)
		spoilt(&m)
		checkPutRefuses(t, m, api.EARG)
	}
}

func TestPutKeepsTheOrder(t *testing.T) {
	m := withOpts(option(254, 1), option(7), option(53, 8), option(1, 255, 0))
	want := append(withTail(254, 1, 1, 7, 0, 53, 1, 8, 1, 2, 255, 0, 255), make([]byte, 47)...)
	checkPut(t, m, want)
	checkGet(t, want, m)
}

func TestTypeOfEachByte(t *testing.T) {
	for v := range 256 {
		want := v
		if v > 8 {
			want = 0
		}
		checkType(t, withOpts(option(53, byte(v))), want)
		checkType(t, withOpts(option(50, 1), option(53, byte(v)), option(7, 2)), want)
		checkType(t, dhcp.Message{Opts: list(option(53, byte(v)))}, want)
	}
}

func TestTypeOfOtherSizes(t *testing.T) {
	for n := range 600 {
		if n != 1 {
			checkType(t, withOpts(option(53, bytes.Repeat([]byte{1}, n)...)), 0)
			checkType(t, withOpts(option(53, make([]byte, n)...)), 0)
		}
	}
	checkType(t, withOpts(opt.Option{Code: 53}), 0)
	checkType(t, withOpts(option(53, bytes.Repeat([]byte{1}, 65537)...)), 0)
}

// TestTypeOfOtherCodes has Codes that become 53 if they are cut.
func TestTypeOfOtherCodes(t *testing.T) {
	for _, code := range append(wide, 0, 1, 52, 54, 35, 181, 255, 309, 53+1<<16, 53+1<<32, 53-256, -53, 53-1<<32) {
		checkType(t, withOpts(option(code, 1)), 0)
		checkType(t, withOpts(option(code, 1), option(53, 2)), 2)
		checkType(t, withOpts(option(53, 3), option(code, 1)), 3)
	}
}

// TestTypeTakesTheFirst has several options 53, as opt.Find takes the first one.
func TestTypeTakesTheFirst(t *testing.T) {
	checkType(t, withOpts(option(53, 1), option(53, 2)), 1)
	checkType(t, withOpts(option(53, 5), option(53)), 5)
	checkType(t, withOpts(option(53), option(53, 2)), 0)
	checkType(t, withOpts(option(53, 9), option(53, 2)), 0)
	checkType(t, withOpts(option(53, 1, 1), option(53, 2)), 0)
}

// TestTypeOfOtherFields has messages that Put refuses for other reasons.
func TestTypeOfOtherFields(t *testing.T) {
	for _, v := range append(wide, 0, 1, 2, 3) {
		checkType(t, dhcp.Message{Op: v, Hops: v, Secs: v, Flags: v, Opts: list(option(53, 6), option(7), option(7), option(v))}, 6)
	}
}
