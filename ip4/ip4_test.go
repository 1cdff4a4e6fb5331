package ip4_test

import (
	"bytes"
	"math"
	"testing"

	"gatehouse/api"
	"gatehouse/ip4"
)

// example is a packet with a value in each field, and its bytes.
var (
	example = ip4.Packet{
		Tos: 0x12, ID: 0x3456, Flags: 5, Part: 0x0789, Ttl: 64, Proto: 17,
		From: api.Addr{192, 168, 1, 20},
		To:   api.Addr{8, 8, 4, 4},
		Opts: []byte{1, 7, 3, 0},
		Body: []byte("hello"),
	}
	exampleBytes = summed([]byte{
		0x46, 0x12, 0, 29, 0x34, 0x56, 0xa7, 0x89, 64, 17, 0, 0,
		192, 168, 1, 20,
		8, 8, 4, 4,
		1, 7, 3, 0,
		'h', 'e', 'l', 'l', 'o',
	})
)

// known is a packet whose checksum, 0xb861, is told by books.
var (
	known = ip4.Packet{
		Flags: 2, Ttl: 64, Proto: 17,
		From: api.Addr{192, 168, 0, 1},
		To:   api.Addr{192, 168, 0, 199},
		Body: make([]byte, 95),
	}
	knownHeader = []byte{0x45, 0, 0, 0x73, 0, 0, 0x40, 0, 0x40, 0x11, 0xb8, 0x61, 0xc0, 0xa8, 0, 1, 0xc0, 0xa8, 0, 0xc7}
)

// fields are the numbers of a packet with the most that each may be.
var fields = []struct {
	name string
	most int
	of   func(p *ip4.Packet) *int
}{
	{"Tos", 255, func(p *ip4.Packet) *int { return &p.Tos }},
	{"ID", 65535, func(p *ip4.Packet) *int { return &p.ID }},
	{"Flags", 7, func(p *ip4.Packet) *int { return &p.Flags }},
	{"Part", 8191, func(p *ip4.Packet) *int { return &p.Part }},
	{"Ttl", 255, func(p *ip4.Packet) *int { return &p.Ttl }},
	{"Proto", 255, func(p *ip4.Packet) *int { return &p.Proto }},
}

// noise returns n bytes that look irregular and depend on seed alone.
func noise(n int, seed uint32) []byte {
	b := make([]byte, n)
	for i := range b {
		seed = seed*1664525 + 1013904223
		b[i] = byte(seed >> 24)
	}
	return b
}

// noisePacket returns a packet with such bytes and numbers in it, and options of
// any length that they may have.
func noisePacket(seed uint32) ip4.Packet {
	b := noise(16, seed)
	pair := func(i int) int { return 256*int(b[i]) + int(b[i+1]) }
	return ip4.Packet{
		Tos: int(b[0]), ID: pair(1), Flags: int(b[3]) % 8, Part: pair(4) % 8192, Ttl: int(b[6]), Proto: int(b[7]),
		From: api.Addr(b[8:12]), To: api.Addr(b[12:16]),
		Opts: noise(4*int(seed%11), seed+1),
		Body: noise(int(seed*7%1441), seed+2),
	}
}

// spare returns b in memory that goes on for 40 bytes behind its end.
func spare(b []byte) []byte {
	long := append(bytes.Clone(b), bytes.Repeat([]byte{0xee}, 40)...)
	return long[:len(b)]
}

// same reports whether two packets agree in all their fields: a nil list and an
// empty one are equivalent.
func same(p, q ip4.Packet) bool {
	return p.Tos == q.Tos && p.ID == q.ID && p.Flags == q.Flags && p.Part == q.Part &&
		p.Ttl == q.Ttl && p.Proto == q.Proto && p.From == q.From && p.To == q.To &&
		bytes.Equal(p.Opts, q.Opts) && bytes.Equal(p.Body, q.Body)
}

// copied returns p with lists of its own.
func copied(p ip4.Packet) ip4.Packet {
	p.Opts, p.Body = bytes.Clone(p.Opts), bytes.Clone(p.Body)
	return p
}

// with returns p after it has been changed.
func with(p ip4.Packet, change func(p *ip4.Packet)) ip4.Packet {
	p = copied(p)
	change(&p)
	return p
}

// headerSum is the remainder by 65535 of the sum of the pairs of b, which is
// never 0: 65535 stands for it, as a header is never 0 throughout.
func headerSum(b []byte) int {
	sum := 0
	for i := 0; i < len(b); i += 2 {
		sum += 256*int(b[i]) + int(b[i+1])
	}
	return (sum-1)%65535 + 1
}

// summed returns b with the checksum of the header with which it begins.
func summed(b []byte) []byte { return summedOver(b, 4*int(b[0]%16)) }

// summedOver returns b with a checksum that fits its first n bytes.
func summedOver(b []byte, n int) []byte {
	b = bytes.Clone(b)
	b[10], b[11] = 0, 0
	sum := 65535 - headerSum(b[:n])
	b[10], b[11] = byte(sum/256), byte(sum%256)
	return b
}

// changed returns b with the value v at a place, and with its sum put right.
func changed(b []byte, at int, v byte) []byte {
	b = bytes.Clone(b)
	b[at] = v
	return summed(b)
}

// plainGet is the word of the chapter, byte by byte.
func plainGet(b []byte) (ip4.Packet, api.Errno) {
	if len(b) < 20 {
		return ip4.Packet{}, api.ESHORT
	}
	head, total := 4*int(b[0]%16), 256*int(b[2])+int(b[3])
	switch {
	case b[0] < 0x45 || b[0] > 0x4f:
		return ip4.Packet{}, api.EFORM
	case len(b) < head:
		return ip4.Packet{}, api.ESHORT
	case headerSum(b[:head]) != 65535:
		return ip4.Packet{}, api.ESUM
	case total < head:
		return ip4.Packet{}, api.EFORM
	case total > len(b):
		return ip4.Packet{}, api.ESHORT
	}
	return ip4.Packet{
		Tos: int(b[1]), ID: 256*int(b[4]) + int(b[5]), Flags: int(b[6]) / 32, Part: 256*(int(b[6])%32) + int(b[7]),
		Ttl: int(b[8]), Proto: int(b[9]), From: api.Addr(b[12:16]), To: api.Addr(b[16:20]),
		Opts: b[20:head], Body: b[head:total],
	}, api.OK
}

// plainPut is the word of the chapter for a packet that Put accepts.
func plainPut(p ip4.Packet) []byte {
	head := 20 + len(p.Opts)
	total := head + len(p.Body)
	b := []byte{
		byte(0x40 + head/4), byte(p.Tos), byte(total / 256), byte(total % 256),
		byte(p.ID / 256), byte(p.ID % 256), byte(32*p.Flags + p.Part/256), byte(p.Part % 256),
		byte(p.Ttl), byte(p.Proto), 0, 0,
	}
	for _, part := range [][]byte{p.From[:], p.To[:], p.Opts, p.Body} {
		b = append(b, part...)
	}
	return summed(b)
}

func checkGet(t *testing.T, b []byte, want ip4.Packet, wantE api.Errno) {
	t.Helper()
	p, e := ip4.Get(b)
	if e != wantE {
		t.Errorf("P6.1: Get(%x): %d instead of %d", b, e, wantE)
	}
	if !same(p, want) {
		t.Errorf("P6.1, R2: Get(%x) with the error %d: %v instead of %v", b, e, p, want)
	}
}

func checkPut(t *testing.T, p ip4.Packet, want []byte, wantE api.Errno) {
	t.Helper()
	b, e := ip4.Put(p)
	if e != wantE {
		t.Errorf("P6.1: Put(%v): %d instead of %d", p, e, wantE)
	}
	if !bytes.Equal(b, want) {
		t.Errorf("P6.1, R2: Put(%v) with the error %d: %x instead of %x", p, e, b, want)
	}
}

func checkPseudo(t *testing.T, p ip4.Packet, n int, want []byte) {
	t.Helper()
	if b := ip4.Pseudo(p, n); !bytes.Equal(b, want) {
		t.Errorf("P6.1: Pseudo(%v, %d): %x instead of %x", p, n, b, want)
	}
}

func checkHop(t *testing.T, b, want []byte, wantE api.Errno) {
	t.Helper()
	h, e := ip4.Hop(b)
	if e != wantE {
		t.Errorf("P6.1: Hop(%x): %d instead of %d", b, e, wantE)
	}
	if !bytes.Equal(h, want) {
		t.Errorf("P6.1, R2: Hop(%x) with the error %d: %x instead of %x", b, e, h, want)
	}
}

// checkRefused has bytes of which neither Get nor Hop makes a packet.
func checkRefused(t *testing.T, b []byte, want api.Errno) {
	t.Helper()
	checkGet(t, b, ip4.Packet{}, want)
	checkHop(t, b, nil, want)
}

func TestGet(t *testing.T) {
	checkGet(t, exampleBytes, example, api.OK)
	checkGet(t, append(bytes.Clone(knownHeader), make([]byte, 95)...), known, api.OK)
	// No number of a packet but its sizes and its checksum is judged.
	least := summed(append([]byte{0x45, 0, 0, 20}, make([]byte, 16)...))
	checkGet(t, least, ip4.Packet{}, api.OK)
	most := summed(append([]byte{0x4f, 255, 0, 60}, bytes.Repeat([]byte{255}, 56)...))
	all := api.Addr{255, 255, 255, 255}
	checkGet(t, most, ip4.Packet{
		Tos: 255, ID: 65535, Flags: 7, Part: 8191, Ttl: 255, Proto: 255, From: all, To: all, Opts: bytes.Repeat([]byte{255}, 40),
	}, api.OK)
}

func TestGetOfTheChaptersExample(t *testing.T) {
	for _, b := range [][]byte{exampleBytes, append(bytes.Clone(knownHeader), make([]byte, 95)...)} {
		for v := range 256 {
			c := bytes.Clone(b)
			c[1] = byte(v)
			if v != int(b[1]) {
				checkRefused(t, c, api.ESUM)
			}
		}
	}
}

// TestGetOfEachLength has all bytes that some packets begin with.
func TestGetOfEachLength(t *testing.T) {
	for _, p := range []ip4.Packet{example, known, {}, noisePacket(10), {Opts: noise(40, 6), Body: noise(1440, 5)}} {
		b := plainPut(p)
		for n := range b {
			checkRefused(t, b[:n], api.ESHORT)
			// The rest is not taken from behind the end.
			checkRefused(t, b[:n:n], api.ESHORT)
		}
		checkGet(t, b, p, api.OK)
		checkGet(t, spare(b), p, api.OK)
	}
	for _, b := range [][]byte{nil, {}, make([]byte, 0, 100), make([]byte, 19), make([]byte, 19, 100), bytes.Repeat([]byte{255}, 19)} {
		checkRefused(t, b, api.ESHORT)
	}
}

func TestGetIgnoresWhatFollows(t *testing.T) {
	wrong := bytes.Repeat([]byte{255}, 40)
	for _, behind := range [][]byte{{0}, {255}, make([]byte, 18), noise(40, 3), exampleBytes, wrong, make([]byte, 1<<17)} {
		checkGet(t, append(bytes.Clone(exampleBytes), behind...), example, api.OK)
		checkRefused(t, append(bytes.Clone(wrong), behind...), api.EFORM)
		checkHop(t, append(bytes.Clone(exampleBytes), behind...), changed(exampleBytes, 8, 63), api.OK)
	}
}

// TestGetOfEachByte puts all values at each place of packets with and without
// options, with the sum that was right before and with the one that is now.
func TestGetOfEachByte(t *testing.T) {
	for _, base := range [][]byte{exampleBytes, plainPut(ip4.Packet{ID: 7, Proto: 6, Body: noise(50, 2)}), plainPut(noisePacket(21))} {
		for at := range min(len(base), 70) {
			for v := range 256 {
				b := bytes.Clone(base)
				b[at] = byte(v)
				want, wantE := plainGet(b)
				checkGet(t, b, want, wantE)
				if int(b[0]%16)*4 > len(b) || b[0]%16 < 3 {
					continue // Such a header has no place for a sum.
				}
				b = summed(b)
				want, wantE = plainGet(b)
				checkGet(t, b, want, wantE)
			}
		}
	}
}

// TestGetOfEachFirstByte has a sum that fits each size of the header.
func TestGetOfEachFirstByte(t *testing.T) {
	for v := range 256 {
		b := noise(100, uint32(v))
		b[0], b[2], b[3] = byte(v), 0, 80
		head := max(20, 4*(v%16))
		b = summedOver(b, head)
		if v < 0x45 || v > 0x4f {
			checkRefused(t, b, api.EFORM)
			continue
		}
		want, wantE := plainGet(b)
		if wantE != api.OK || len(want.Opts) != head-20 || len(want.Body) != 80-head {
			t.Fatalf("the test has a packet that is none: %x", b)
		}
		checkGet(t, b, want, api.OK)
		checkRefused(t, b[:head-1], api.ESHORT)
		// The header is complete, so that its total length is told to be too great.
		checkRefused(t, b[:head], api.ESHORT)
	}
}

// TestGetOfEachTotal has all total lengths with a few bytes, and with one byte
// too few.
func TestGetOfEachTotal(t *testing.T) {
	long := append(bytes.Clone(exampleBytes[:24]), noise(65536, 4)...)
	few := bytes.Clone(long[:200])
	for total := range 65536 {
		few[2], few[3] = byte(total/256), byte(total%256)
		few = summed(few)
		want, wantE := plainGet(few)
		checkGet(t, few, want, wantE)
		copy(long, few[:24])
		switch {
		case total < 24:
			checkRefused(t, few, api.EFORM)
			checkRefused(t, few[:24], api.EFORM)
		case total > 24:
			checkRefused(t, long[:total-1], api.ESHORT)
		}
	}
}

// TestOrderOfGet has bytes to which several errors apply.
func TestOrderOfGet(t *testing.T) {
	set := func(b []byte, at int, v byte) []byte {
		b = bytes.Clone(b)
		b[at] = v
		return b
	}
	for _, c := range []struct {
		name string
		b    []byte
		want api.Errno
	}{
		{"too few bytes, version", make([]byte, 19), api.ESHORT},
		{"too few bytes, version, header's size", bytes.Repeat([]byte{0x61}, 19), api.ESHORT},
		{"version, incomplete header", append([]byte{0x6f}, make([]byte, 19)...), api.EFORM},
		{"version, sum, total", make([]byte, 60), api.EFORM},
		{"header's size, sum, total", append([]byte{0x44}, make([]byte, 59)...), api.EFORM},
		{"incomplete header, sum, total", append([]byte{0x4f}, make([]byte, 58)...), api.ESHORT},
		{"incomplete header, sum", set(exampleBytes, 0, 0x4f), api.ESHORT},
		{"incomplete header of five units and more", exampleBytes[:20], api.ESHORT},
		{"sum, small total", set(exampleBytes, 3, 19), api.ESUM},
		{"sum, total of zero", set(exampleBytes, 3, 0), api.ESUM},
		{"sum, great total", set(exampleBytes, 2, 255), api.ESUM},
		{"sum, Ttl", set(exampleBytes, 8, 0), api.ESUM},
		{"small total", changed(exampleBytes, 3, 23), api.EFORM},
		{"small total that has the fixed part", changed(exampleBytes, 3, 20), api.EFORM},
		{"total of zero", changed(exampleBytes, 3, 0), api.EFORM},
		{"small total, Ttl", changed(changed(exampleBytes, 3, 23), 8, 1), api.EFORM},
		{"great total", changed(exampleBytes, 3, 30), api.ESHORT},
		{"great total in its first byte", changed(exampleBytes, 2, 1), api.ESHORT},
		{"greatest total", changed(changed(exampleBytes, 3, 255), 2, 255), api.ESHORT},
		{"great total, Ttl", changed(changed(exampleBytes, 3, 30), 8, 0), api.ESHORT},
	} {
		if _, e := ip4.Get(c.b); e != c.want {
			t.Errorf("P6.1: Get, %s: %d instead of %d", c.name, e, c.want)
		}
		checkRefused(t, c.b, c.want)
	}
}

// TestGetOfEachSum has all checksums for one header: two of them fit if the
// right one is 0, as 65535 stands for it.
func TestGetOfEachSum(t *testing.T) {
	zero := changed(exampleBytes, 4, 0)
	for id := 0; zero[10] != 0 || zero[11] != 0; id++ {
		zero[4], zero[5] = byte(id/256), byte(id%256)
		zero = summed(zero)
	}
	for _, base := range [][]byte{exampleBytes, zero} {
		for sum := range 65536 {
			b := bytes.Clone(base)
			b[10], b[11] = byte(sum/256), byte(sum%256)
			want, wantE := plainGet(b)
			checkGet(t, b, want, wantE)
		}
	}
	zero[10], zero[11] = 255, 255
	if _, e := ip4.Get(zero); e != api.OK {
		t.Errorf("P6.1: Get of a checksum 65535 that stands for 0: %d", e)
	}
	if h, e := ip4.Hop(zero); e != api.OK || !bytes.Equal(h, changed(zero, 8, 63)) {
		t.Errorf("P6.1: Hop of a checksum 65535 that stands for 0: %x, %d", h, e)
	}
}

// TestSumIsOfTheHeaderAlone changes the body, and then the options.
func TestSumIsOfTheHeaderAlone(t *testing.T) {
	for at := 20; at < len(exampleBytes); at++ {
		b := bytes.Clone(exampleBytes)
		b[at] ^= 0x41
		want, e := plainGet(b)
		if at < 24 != (e == api.ESUM) {
			t.Fatalf("the test is wrong at %d: %d", at, e)
		}
		checkGet(t, b, want, e)
	}
}

func TestPut(t *testing.T) {
	checkPut(t, example, exampleBytes, api.OK)
	checkPut(t, known, append(bytes.Clone(knownHeader), make([]byte, 95)...), api.OK)
	checkPut(t, ip4.Packet{}, append([]byte{0x45, 0, 0, 20, 0, 0, 0, 0, 0, 0, 0xba, 0xeb}, make([]byte, 8)...), api.OK)
	checkPut(t, ip4.Packet{Opts: []byte{}, Body: []byte{9}}, []byte{0x45, 0, 0, 21, 0, 0, 0, 0, 0, 0, 0xba, 0xea, 0, 0, 0, 0, 0, 0, 0, 0, 9}, api.OK)
	all := api.Addr{255, 255, 255, 255}
	most := ip4.Packet{Tos: 255, ID: 65535, Flags: 7, Part: 8191, Ttl: 255, Proto: 255, From: all, To: all}
	checkPut(t, most, summed(append([]byte{0x45, 255, 0, 20}, bytes.Repeat([]byte{255}, 16)...)), api.OK)
}

// TestEachValueOfAField goes there and back with all that each field holds.
func TestEachValueOfAField(t *testing.T) {
	for _, base := range []ip4.Packet{{}, example} {
		for _, f := range fields {
			for v := range f.most + 1 {
				p := with(base, func(p *ip4.Packet) { *f.of(p) = v })
				checkPut(t, p, plainPut(p), api.OK)
				checkGet(t, plainPut(p), p, api.OK)
			}
		}
	}
}

func TestEachFlagsAndPart(t *testing.T) {
	p := ip4.Packet{Ttl: 1}
	for p.Flags = range 8 {
		for p.Part = range 8192 {
			b := plainPut(p)
			checkPut(t, p, b, api.OK)
			checkGet(t, b, p, api.OK)
			if want := p.Part == 0 && p.Flags%2 == 0; ip4.Whole(p) != want {
				t.Errorf("P6.1: Whole of Flags %d, Part %d: %t", p.Flags, p.Part, !want)
			}
		}
	}
}

// TestPutOfWrongNumbers has numbers of which many become one that fits if they
// are cut to as many bits as a field has, or to 32.
func TestPutOfWrongNumbers(t *testing.T) {
	for _, f := range fields {
		wrong := []int{f.most + 1, f.most + 2, 2*f.most + 1, 2*f.most + 2, 65536, 1 << 20, math.MaxInt32, 1 << 32, 1<<32 + 1, math.MaxInt - 1, math.MaxInt}
		for _, v := range wrong {
			for _, v := range []int{v, -v, -v - 1, -1, -2} {
				for _, base := range []ip4.Packet{{}, example} {
					p := with(base, func(p *ip4.Packet) { *f.of(p) = v })
					checkPut(t, p, nil, api.EARG)
				}
			}
		}
	}
}

func TestPutOfEachLengthOfOpts(t *testing.T) {
	for n := range 200 {
		p := with(example, func(p *ip4.Packet) { p.Opts = noise(n, uint32(n)) })
		if n > 40 || n%4 != 0 {
			checkPut(t, p, nil, api.EARG)
			continue
		}
		checkPut(t, p, plainPut(p), api.OK)
		checkGet(t, plainPut(p), p, api.OK)
	}
	for _, n := range []int{256, 260, 1 << 10, 1480, 1484, 1 << 16, 1<<16 + 4, 1 << 20} {
		checkPut(t, ip4.Packet{Opts: make([]byte, n)}, nil, api.EARG)
	}
}

// TestPutOfEachLength has bodies around the limit for each length of Opts.
func TestPutOfEachLength(t *testing.T) {
	for opts := 0; opts <= 40; opts += 4 {
		for body := 1420; body < 1500; body++ {
			p := with(example, func(p *ip4.Packet) { p.Opts, p.Body = noise(opts, 1), noise(body, 2) })
			if 20+opts+body > 1500 {
				checkPut(t, p, nil, api.ELIMIT)
				continue
			}
			checkPut(t, p, plainPut(p), api.OK)
		}
	}
	for body := range 1481 {
		p := ip4.Packet{ID: body, Ttl: 3, Body: noise(body, uint32(body))}
		checkPut(t, p, plainPut(p), api.OK)
	}
	checkPut(t, ip4.Packet{Body: make([]byte, 1481)}, nil, api.ELIMIT)
	for _, n := range []int{1482, 1500, 1514, 65515, 65516, 65535, 65536, 65536 + 100, 1 << 24} {
		checkPut(t, ip4.Packet{Body: make([]byte, n)}, nil, api.ELIMIT)
	}
}

// TestOrderOfPut has packets that are too long and have something else wrong.
func TestOrderOfPut(t *testing.T) {
	long := with(example, func(p *ip4.Packet) { p.Body = make([]byte, 1481) })
	checkPut(t, long, nil, api.ELIMIT)
	for _, f := range fields {
		for _, v := range []int{f.most + 1, -1, math.MaxInt, math.MinInt} {
			checkPut(t, with(long, func(p *ip4.Packet) { *f.of(p) = v }), nil, api.EARG)
		}
	}
	for _, n := range []int{1, 2, 3, 5, 39, 41, 42, 43, 44, 1500} {
		checkPut(t, with(long, func(p *ip4.Packet) { p.Opts = make([]byte, n) }), nil, api.EARG)
	}
}

// TestSums has all values of two bytes of a header, so that its checksum has all
// values too, among them those around 0 and 65535.
func TestSums(t *testing.T) {
	p := ip4.Packet{Tos: 9, Ttl: 200, Proto: 6, From: api.Addr{200, 1, 255, 3}, To: api.Addr{250, 9, 8, 7}, Opts: []byte{255, 255, 0, 1}}
	seen := map[[2]byte]bool{}
	for p.ID = range 65536 {
		b := plainPut(p)
		seen[[2]byte{b[10], b[11]}] = true
		checkPut(t, p, b, api.OK)
		checkGet(t, b, p, api.OK)
		checkHop(t, b, changed(b, 8, 199), api.OK)
	}
	// No header has the checksum 65535, as none is 0 throughout.
	if len(seen) != 65535 || seen[[2]byte{255, 255}] {
		t.Errorf("the test has only %d checksums", len(seen))
	}
}

func TestThereAndBack(t *testing.T) {
	for seed := range uint32(2000) {
		p := noisePacket(seed)
		b := plainPut(p)
		checkPut(t, p, b, api.OK)
		checkGet(t, b, p, api.OK)
		if p.Ttl < 2 {
			checkHop(t, b, nil, api.EDENY)
			continue
		}
		checkHop(t, b, changed(b, 8, byte(p.Ttl-1)), api.OK)
	}
}

func TestWhole(t *testing.T) {
	for _, c := range []struct {
		flags, part int
		want        bool
	}{
		{0, 0, true}, {2, 0, true}, {4, 0, true}, {6, 0, true},
		{1, 0, false}, {3, 0, false}, {5, 0, false}, {7, 0, false},
		{0, 1, false}, {2, 1, false}, {1, 1, false}, {0, 8191, false}, {7, 8191, false}, {2, 185, false},
		// Numbers that no field holds, as R6 allows.
		{8, 0, true}, {9, 0, false}, {256, 0, true}, {257, 0, false}, {1 << 32, 0, true}, {1<<32 + 1, 0, false},
		{-1, 0, false}, {-2, 0, true}, {-3, 0, false}, {math.MaxInt, 0, false}, {math.MinInt, 0, true}, {math.MinInt + 1, 0, false},
		{0, -1, false}, {0, 8192, false}, {2, 65536, false}, {0, 1 << 32, false}, {0, math.MaxInt, false}, {0, math.MinInt, false},
	} {
		if ip4.Whole(ip4.Packet{Flags: c.flags, Part: c.part}) != c.want {
			t.Errorf("P6.1: Whole of Flags %d, Part %d: %t", c.flags, c.part, !c.want)
		}
		// The other fields do not matter.
		if ip4.Whole(with(example, func(p *ip4.Packet) { p.Flags, p.Part = c.flags, c.part })) != c.want {
			t.Errorf("P6.1: Whole of the example with Flags %d, Part %d: %t", c.flags, c.part, !c.want)
		}
	}
}

func TestPseudo(t *testing.T) {
	p := ip4.Packet{Proto: 17, From: api.Addr{10, 0, 0, 1}, To: api.Addr{8, 8, 4, 4}}
	checkPseudo(t, p, 300, []byte{10, 0, 0, 1, 8, 8, 4, 4, 0, 17, 1, 44})
	checkPseudo(t, example, 5, []byte{192, 168, 1, 20, 8, 8, 4, 4, 0, 17, 0, 5})
	checkPseudo(t, ip4.Packet{}, 0, make([]byte, 12))
	for n := range 65536 {
		checkPseudo(t, p, n, []byte{10, 0, 0, 1, 8, 8, 4, 4, 0, 17, byte(n / 256), byte(n % 256)})
	}
	for proto := range 256 {
		p.Proto = proto
		checkPseudo(t, p, 20, []byte{10, 0, 0, 1, 8, 8, 4, 4, 0, byte(proto), 0, 20})
	}
}

// TestPseudoOfAnyNumbers has numbers that do not fit: their lowest bits count.
func TestPseudoOfAnyNumbers(t *testing.T) {
	p := ip4.Packet{From: api.Addr{1, 2, 3, 4}, To: api.Addr{5, 6, 7, 8}}
	for _, c := range []struct {
		proto, n        int
		low, high, last byte
	}{
		{256, 65536, 0, 0, 0}, {257, 65537, 1, 0, 1}, {511, 131071, 255, 255, 255}, {1<<32 + 6, 1<<32 + 258, 6, 1, 2},
		{-1, -1, 255, 255, 255}, {-256, -65536, 0, 0, 0}, {-255, -65535, 1, 0, 1}, {-2, -300, 254, 254, 212},
		{math.MaxInt, math.MaxInt, 255, 255, 255}, {math.MinInt, math.MinInt, 0, 0, 0}, {math.MinInt + 17, math.MinInt + 513, 17, 2, 1},
	} {
		p.Proto = c.proto
		checkPseudo(t, p, c.n, []byte{1, 2, 3, 4, 5, 6, 7, 8, 0, c.low, c.high, c.last})
	}
	// The other fields do not matter, and neither do wrong ones among them.
	wrong := ip4.Packet{Tos: -1, ID: 1 << 20, Flags: 8, Part: -5, Ttl: 256, Proto: 6, From: p.From, To: p.To, Opts: make([]byte, 41), Body: make([]byte, 2000)}
	checkPseudo(t, wrong, 2000, []byte{1, 2, 3, 4, 5, 6, 7, 8, 0, 6, 7, 208})
}

func TestHop(t *testing.T) {
	b := append(bytes.Clone(knownHeader), make([]byte, 95)...)
	want := bytes.Clone(b)
	want[8], want[10] = 0x3f, 0xb9
	checkHop(t, b, want, api.OK)
	checkHop(t, exampleBytes, plainPut(with(example, func(p *ip4.Packet) { p.Ttl = 63 })), api.OK)
	// The flag that forbids fragments, and fragments themselves, do not matter.
	for flags := range 8 {
		p := with(example, func(p *ip4.Packet) { p.Flags = flags })
		checkHop(t, plainPut(p), changed(plainPut(p), 8, 63), api.OK)
	}
}

func TestHopOfEachTtlAndProto(t *testing.T) {
	for _, base := range []ip4.Packet{example, known, {}} {
		for ttl := range 256 {
			for proto := range 256 {
				b := plainPut(with(base, func(p *ip4.Packet) { p.Ttl, p.Proto = ttl, proto }))
				if ttl < 2 {
					checkHop(t, b, nil, api.EDENY)
					continue
				}
				checkHop(t, b, changed(b, 8, byte(ttl-1)), api.OK)
			}
		}
	}
}

// TestHopToTheLast lets a packet pass till its Ttl forbids it.
func TestHopToTheLast(t *testing.T) {
	b := plainPut(with(example, func(p *ip4.Packet) { p.Ttl = 255 }))
	for ttl := 254; ttl > 0; ttl-- {
		h, e := ip4.Hop(b)
		if e != api.OK {
			t.Fatalf("P6.1: Hop to the Ttl %d: %d", ttl, e)
		}
		b = h
		checkGet(t, b, with(example, func(p *ip4.Packet) { p.Ttl = ttl }), api.OK)
	}
	checkHop(t, b, nil, api.EDENY)
	checkHop(t, append(b, 1, 2, 3), nil, api.EDENY)
}

// TestGreatPackets has packets beyond the limit of Put, which is not one of Get.
func TestGreatPackets(t *testing.T) {
	for _, n := range []int{1480, 1481, 1500, 32768, 65515} {
		p := with(known, func(p *ip4.Packet) { p.Body = noise(n, 1) })
		b := plainPut(p)
		checkGet(t, b, p, api.OK)
		checkHop(t, b, changed(b, 8, 63), api.OK)
		checkGet(t, append(b, 7), p, api.OK)
		checkHop(t, append(b, 7), changed(b, 8, 63), api.OK)
		checkRefused(t, b[:len(b)-1], api.ESHORT)
	}
}

// TestNoise has bytes that are hardly ever a packet, with and without the
// beginning of one.
func TestNoise(t *testing.T) {
	for seed := range uint32(5000) {
		b := noise(int(seed%120), seed)
		want, wantE := plainGet(b)
		checkGet(t, b, want, wantE)
		if len(b) < 60 {
			continue
		}
		b[0], b[2] = 0x40+b[0]%16, 0
		if b[0]%16 > 2 {
			b = summed(b)
		}
		want, wantE = plainGet(b)
		checkGet(t, b, want, wantE)
		switch {
		case wantE != api.OK:
			checkHop(t, b, nil, wantE)
		case want.Ttl < 2:
			checkHop(t, b, nil, api.EDENY)
		default:
			checkHop(t, b, changed(b, 8, b[8]-1)[:b[3]], api.OK)
		}
	}
}

// TestArgumentsRemain has bytes that are accepted and refused, and looks behind
// their ends too.
func TestArgumentsRemain(t *testing.T) {
	for _, b := range [][]byte{exampleBytes, exampleBytes[:20], changed(exampleBytes, 8, 1), append(bytes.Clone(exampleBytes), 1, 2, 3), noise(30, 1), nil} {
		b = spare(b)
		whole := bytes.Clone(b[:len(b)+40])
		ip4.Get(b)
		if !bytes.Equal(b[:len(b)+40], whole) {
			t.Errorf("R4: Get(%x) changes its argument", whole)
		}
		ip4.Hop(b)
		if !bytes.Equal(b[:len(b)+40], whole) {
			t.Errorf("R4: Hop(%x) changes its argument", whole)
		}
	}
	for _, p := range []ip4.Packet{example, {}, noisePacket(7), with(example, func(p *ip4.Packet) { p.Ttl = -1 }), {Opts: noise(4, 1), Body: noise(1490, 2)}} {
		p.Opts, p.Body = spare(p.Opts), spare(p.Body)
		opts, body := bytes.Clone(p.Opts[:len(p.Opts)+40]), bytes.Clone(p.Body[:len(p.Body)+40])
		ip4.Put(p)
		ip4.Pseudo(p, 9)
		ip4.Whole(p)
		if !bytes.Equal(p.Opts[:len(opts)], opts) || !bytes.Equal(p.Body[:len(body)], body) {
			t.Errorf("R4: Put, Pseudo or Whole of %v changes its argument", p)
		}
	}
}

// ruin writes on all memory of a list.
func ruin(b []byte) {
	b = b[:cap(b)]
	for i := range b {
		b[i] ^= 0x5a
	}
}

// TestResultsAreNewMemory ruins arguments and looks at results, and ruins
// results and looks at arguments and other results.
func TestResultsAreNewMemory(t *testing.T) {
	for _, p := range []ip4.Packet{example, {Opts: noise(40, 1), Body: noise(1440, 1)}, {Body: noise(8, 3)}, {Opts: noise(8, 4)}, {}} {
		want := plainPut(with(p, func(p *ip4.Packet) { p.Ttl = 9 }))
		b := spare(want)
		got, _ := ip4.Get(b)
		again, _ := ip4.Get(b)
		hop, _ := ip4.Hop(b)
		ruin(b)
		if !same(got, with(p, func(p *ip4.Packet) { p.Ttl = 9 })) || !bytes.Equal(hop, changed(want, 8, 8)) {
			t.Errorf("R4: results of Get or Hop of %x share its memory", want)
		}
		ruin(again.Opts)
		ruin(again.Body)
		ruin(hop)
		if !same(got, with(p, func(p *ip4.Packet) { p.Ttl = 9 })) {
			t.Errorf("R4: results of two calls with %x share memory", want)
		}
		ruin(got.Opts)
		if !bytes.Equal(got.Body, p.Body) {
			t.Errorf("R4: the Opts and the Body of Get(%x) share memory", want)
		}
		p.Opts, p.Body = spare(p.Opts), spare(p.Body)
		put, _ := ip4.Put(p)
		wantPut := bytes.Clone(put)
		other, _ := ip4.Put(p)
		first, second := ip4.Pseudo(p, 7), ip4.Pseudo(p, 7)
		ruin(p.Opts)
		ruin(p.Body)
		ruin(other)
		if !bytes.Equal(put, wantPut) {
			t.Errorf("R4: results of Put share memory: %x", wantPut)
		}
		ruin(first)
		checkPseudo(t, p, 7, second)
	}
}

// TestResultsDependOnArgumentsAlone makes calls that succeed and that fail
// between those whose results it looks at.
func TestResultsDependOnArgumentsAlone(t *testing.T) {
	for seed := range uint32(5) {
		busy := noisePacket(seed)
		ip4.Put(busy)
		ip4.Put(ip4.Packet{Tos: -1, Body: noise(9, seed)})
		ip4.Put(ip4.Packet{Body: noise(1481, seed)})
		checkPut(t, example, exampleBytes, api.OK)
		ip4.Get(plainPut(busy))
		ip4.Get(exampleBytes[:28])
		ip4.Get(noise(40, seed))
		checkGet(t, exampleBytes, example, api.OK)
		ip4.Hop(plainPut(busy))
		ip4.Hop(changed(exampleBytes, 8, 1))
		checkHop(t, exampleBytes, changed(exampleBytes, 8, 63), api.OK)
		ip4.Pseudo(busy, 65535)
		checkPseudo(t, example, 5, []byte{192, 168, 1, 20, 8, 8, 4, 4, 0, 17, 0, 5})
	}
}
