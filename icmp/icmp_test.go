package icmp_test

import (
	"bytes"
	"math"
	"testing"

	"gatehouse/api"
	"gatehouse/icmp"
	"gatehouse/ip4"
)

// example is an echo message, and carrier a packet that it is put into. Its
// checksum, 0x8f8a, was computed by hand.
var (
	carrier      = ip4.Packet{Ttl: 64, Proto: 1, From: api.Addr{10, 0, 0, 1}, To: api.Addr{8, 8, 4, 4}}
	example      = icmp.Message{Type: 8, Rest: 0x00050007, Body: []byte("hi")}
	exampleBytes = []byte{8, 0, 0x8f, 0x8a, 0, 5, 0, 7, 'h', 'i'}
)

// emptyBytes is the message without a value in any field.
var emptyBytes = []byte{0, 0, 255, 255, 0, 0, 0, 0}

// most is the message with the greatest numbers.
var most = icmp.Message{Type: 255, Code: 255, Rest: 1<<32 - 1, Body: []byte{255, 255}}

// full is a packet with a value in each field.
var full = ip4.Packet{
	Tos: 0x12, ID: 0x3456, Flags: 2, Ttl: 200, Proto: 1,
	From: api.Addr{192, 168, 1, 20},
	To:   api.Addr{255, 255, 255, 255},
	Opts: []byte{1, 7, 3, 0},
	Body: []byte("something"),
}

// wrongBytes are numbers that one byte does not hold.
var wrongBytes = []int{-1, -2, -8, -248, -255, -256, -257, 256, 257, 264, 511, 512, 520, 65535, 65536, 1 << 20, 1 << 32, 1<<32 + 8, math.MaxInt, math.MaxInt - 1, math.MinInt, math.MinInt + 8}

// wrongProtos are numbers of other protocols and numbers that one byte does not
// hold.
var wrongProtos = []int{-1, -2, -254, -255, -256, 0, api.TCP, api.UDP, 2, 3, 255, 256, 256 + 1, 512 + 1, 1<<16 + 1, 1<<32 + 1, math.MaxInt, math.MinInt, math.MinInt + 1}

// noise returns n bytes that look irregular and depend on seed alone.
func noise(n int, seed uint32) []byte {
	b := make([]byte, n)
	for i := range b {
		seed = seed*1664525 + 1013904223
		b[i] = byte(seed >> 24)
	}
	return b
}

// pair and quad return the numbers of the bytes of b that begin at at.
func pair(b []byte, at int) int { return 256*int(b[at]) + int(b[at+1]) }

func quad(b []byte, at int) uint32 { return uint32(65536*pair(b, at) + pair(b, at+2)) }

// noiseCarrier returns a packet with such bytes and numbers in it that is not a
// fragment.
func noiseCarrier(seed uint32) ip4.Packet {
	b := noise(16, seed)
	return ip4.Packet{
		Tos: int(b[0]), ID: pair(b, 1), Flags: 2 * int(b[3]%4), Ttl: int(b[4]), Proto: 1,
		From: api.Addr(b[8:12]), To: api.Addr(b[12:16]),
		Opts: noise(4*int(seed%11), seed+1),
		Body: noise(int(seed%5), seed+2),
	}
}

// noiseMessage returns a message of any length that Put accepts.
func noiseMessage(seed uint32) icmp.Message {
	b := noise(6, seed+3)
	return icmp.Message{
		Type: int(b[0]), Code: int(b[1]), Rest: quad(b, 2),
		Body: noise(int(seed*7%1473), seed+4),
	}
}

// spare returns b in memory that goes on for 40 bytes behind its end.
func spare(b []byte) []byte {
	long := append(bytes.Clone(b), bytes.Repeat([]byte{0xee}, 40)...)
	return long[:len(b)]
}

// ruin writes on all memory of a list.
func ruin(b []byte) {
	b = b[:cap(b)]
	for i := range b {
		b[i] ^= 0x5a
	}
}

// same reports whether two packets agree in all their fields: a nil list and an
// empty one are equivalent.
func same(p, q ip4.Packet) bool {
	return p.Tos == q.Tos && p.ID == q.ID && p.Flags == q.Flags && p.Part == q.Part &&
		p.Ttl == q.Ttl && p.Proto == q.Proto && p.From == q.From && p.To == q.To &&
		bytes.Equal(p.Opts, q.Opts) && bytes.Equal(p.Body, q.Body)
}

func sameMessage(m, g icmp.Message) bool {
	return m.Type == g.Type && m.Code == g.Code && m.Rest == g.Rest && bytes.Equal(m.Body, g.Body)
}

// with returns p, with lists of its own, after it has been changed.
func with(p ip4.Packet, change func(p *ip4.Packet)) ip4.Packet {
	p.Opts, p.Body = bytes.Clone(p.Opts), bytes.Clone(p.Body)
	change(&p)
	return p
}

// but returns m after it has been changed.
func but(m icmp.Message, change func(m *icmp.Message)) icmp.Message {
	change(&m)
	return m
}

// carrying returns p with a copy of a body.
func carrying(p ip4.Packet, body []byte) ip4.Packet {
	return with(p, func(p *ip4.Packet) { p.Body = bytes.Clone(body) })
}

// total is the sum of all pairs of b, without any remainder.
func total(b []byte) int {
	sum := 0
	for i, c := range b {
		if i%2 == 0 {
			sum += 256 * int(c)
		} else {
			sum += int(c)
		}
	}
	return sum
}

// summed returns b with the checksum of the message that it is; or with a wrong
// one, that is off by some number.
func summed(b []byte, off int) []byte {
	b = bytes.Clone(b)
	b[2], b[3] = 0, 0
	sum := 65535
	if all := total(b); all > 0 {
		sum = (65535 - all%65535) % 65535
	}
	sum = (sum + off) % 65536
	b[2], b[3] = byte(sum/256), byte(sum%256)
	return b
}

// plainGet is the word of the chapter, byte by byte. The checksum of bytes is 0
// if their sum comes to 65535 again and again; that of zeros is not.
func plainGet(p ip4.Packet) (icmp.Message, api.Errno) {
	b := p.Body
	switch {
	case p.Proto != 1:
		return icmp.Message{}, api.EARG
	case p.Part != 0 || p.Flags%2 != 0:
		return icmp.Message{}, api.EFRAG
	case len(b) < 8:
		return icmp.Message{}, api.ESHORT
	case total(b) == 0 || total(b)%65535 != 0:
		return icmp.Message{}, api.ESUM
	}
	return icmp.Message{Type: int(b[0]), Code: int(b[1]), Rest: quad(b, 4), Body: b[8:]}, api.OK
}

// plainBytes is the word of the chapter for the body of a packet with a message
// that Put accepts.
func plainBytes(m icmp.Message) []byte {
	b := []byte{byte(m.Type), byte(m.Code), 0, 0}
	for _, unit := range []uint32{1 << 24, 1 << 16, 1 << 8, 1} {
		b = append(b, byte(m.Rest/unit%256))
	}
	return summed(append(b, m.Body...), 0)
}

// plainPut is the packet with that body.
func plainPut(p ip4.Packet, m icmp.Message) ip4.Packet {
	return with(p, func(p *ip4.Packet) { p.Proto, p.Body = 1, plainBytes(m) })
}

func checkGet(t *testing.T, p ip4.Packet, want icmp.Message, wantE api.Errno) {
	t.Helper()
	m, e := icmp.Get(p)
	if e != wantE {
		t.Errorf("P9.1: Get(%v): %d instead of %d", p, e, wantE)
	}
	if !sameMessage(m, want) {
		t.Errorf("P9.1, R2: Get(%v) with the error %d: %v instead of %v", p, e, m, want)
	}
}

// checkRefused has a packet that contains no message.
func checkRefused(t *testing.T, p ip4.Packet, want api.Errno) {
	t.Helper()
	checkGet(t, p, icmp.Message{}, want)
}

// checkPlain has a packet with which Get does what plainGet does.
func checkPlain(t *testing.T, p ip4.Packet) {
	t.Helper()
	want, wantE := plainGet(p)
	checkGet(t, p, want, wantE)
}

func checkPut(t *testing.T, p ip4.Packet, m icmp.Message, want ip4.Packet, wantE api.Errno) {
	t.Helper()
	q, e := icmp.Put(p, m)
	if e != wantE {
		t.Errorf("P9.1: Put(%v, %v): %d instead of %d", p, m, e, wantE)
	}
	if !same(q, want) {
		t.Errorf("P9.1, R2: Put(%v, %v) with the error %d: %v instead of %v", p, m, e, q, want)
	}
}

func checkNotPut(t *testing.T, p ip4.Packet, m icmp.Message, want api.Errno) {
	t.Helper()
	checkPut(t, p, m, ip4.Packet{}, want)
}

// checkBoth has a message that Put accepts, and Get takes from there again.
func checkBoth(t *testing.T, p ip4.Packet, m icmp.Message) {
	t.Helper()
	want := plainPut(p, m)
	checkPut(t, p, m, want, api.OK)
	checkGet(t, want, m, api.OK)
}

func TestGet(t *testing.T) {
	checkGet(t, carrying(carrier, exampleBytes), example, api.OK)
	checkGet(t, plainPut(full, example), example, api.OK)
	checkGet(t, carrying(ip4.Packet{Proto: 1}, emptyBytes), icmp.Message{}, api.OK)
	checkGet(t, carrying(carrier, summed(bytes.Repeat([]byte{255}, 10), 0)), most, api.OK)
	// Types that no RFC tells, and bodies of odd lengths.
	checkGet(t, carrying(carrier, summed([]byte{77, 88, 0, 0, 1, 2, 3, 4, 5}, 0)), icmp.Message{Type: 77, Code: 88, Rest: 0x01020304, Body: []byte{5}}, api.OK)
	// Zeros throughout do not contain their checksum, 65535.
	checkRefused(t, carrying(carrier, make([]byte, 8)), api.ESUM)
	checkRefused(t, carrying(carrier, make([]byte, 9)), api.ESUM)
}

// TestGetOfTheChaptersExample changes byte 0 to each other value.
func TestGetOfTheChaptersExample(t *testing.T) {
	for _, m := range []icmp.Message{example, {}, {Type: 3, Code: 1, Body: noise(28, 1)}, most} {
		good := plainPut(carrier, m)
		for v := range 256 {
			if v != m.Type {
				checkRefused(t, with(good, func(p *ip4.Packet) { p.Body[0] = byte(v) }), api.ESUM)
			}
		}
	}
}

// TestGetOfEachByte puts all values at each place of messages, with the sum that
// was right before, with the one that is now, and with wrong ones.
func TestGetOfEachByte(t *testing.T) {
	for _, base := range []ip4.Packet{
		plainPut(carrier, example),
		plainPut(carrier, icmp.Message{Type: 11, Body: []byte("hello")}),
		plainPut(full, but(noiseMessage(1), func(m *icmp.Message) { m.Body = noise(100, 3) })),
		plainPut(noiseCarrier(3), icmp.Message{Code: 255, Body: []byte{255}}),
	} {
		for at := range min(len(base.Body), 40) {
			for v := range 256 {
				p := with(base, func(p *ip4.Packet) { p.Body[at] = byte(v) })
				checkPlain(t, p)
				checkPlain(t, carrying(p, summed(p.Body, 0)))
				checkPlain(t, carrying(p, summed(p.Body, 1)))
				checkPlain(t, carrying(p, summed(p.Body, 65535)))
			}
		}
	}
}

// TestGetOfEachBit has the bits of Rest, one by one.
func TestGetOfEachBit(t *testing.T) {
	for bit := range 32 {
		for _, rest := range []uint32{1 << bit, 1<<bit - 1, ^uint32(1 << bit)} {
			checkBoth(t, carrier, icmp.Message{Type: 8, Rest: rest})
			checkBoth(t, full, but(example, func(m *icmp.Message) { m.Rest = rest }))
		}
	}
}

// TestGetOfEachSize has all bytes that some messages begin with: from 8 bytes on
// they are a message, but hardly ever one with the right sum.
func TestGetOfEachSize(t *testing.T) {
	for _, base := range []ip4.Packet{
		carrying(carrier, exampleBytes), plainPut(full, noiseMessage(9)), plainPut(carrier, icmp.Message{}),
		plainPut(carrier, icmp.Message{Body: make([]byte, 30)}), plainPut(carrier, icmp.Message{Body: noise(1472, 2)}),
	} {
		for n := range base.Body {
			p := base
			p.Body = base.Body[:n]
			if n < 8 {
				// The rest is not taken from behind the end.
				checkRefused(t, p, api.ESHORT)
				checkRefused(t, carrying(p, p.Body), api.ESHORT)
				continue
			}
			checkPlain(t, p)
			checkPlain(t, carrying(p, summed(p.Body, 0)))
			checkRefused(t, carrying(p, summed(p.Body, 2)), api.ESUM)
		}
		checkPlain(t, base)
	}
	for n := range 8 {
		for _, c := range []byte{0, 8, 255} {
			checkRefused(t, carrying(carrier, bytes.Repeat([]byte{c}, n)), api.ESHORT)
		}
	}
	checkRefused(t, with(carrier, func(p *ip4.Packet) { p.Body = nil }), api.ESHORT)
	checkRefused(t, with(carrier, func(p *ip4.Packet) { p.Body = make([]byte, 0, 100) }), api.ESHORT)
}

// TestGetOfLongBodies has bodies beyond what Put writes: Get accepts whatever is
// there.
func TestGetOfLongBodies(t *testing.T) {
	for _, n := range []int{1479, 1480, 1481, 1482, 1500, 32767, 32768, 65515, 65535, 65536, 65537, 100001} {
		p := carrying(full, summed(noise(n, uint32(n)), 0))
		checkPlain(t, p)
		if m, e := icmp.Get(p); e != api.OK || len(m.Body) != n-8 {
			t.Errorf("P9.1: Get of %d bytes: %d bytes, %d", n, len(m.Body), e)
		}
		checkRefused(t, carrying(full, summed(p.Body, 3)), api.ESUM)
	}
}

// TestGetTakesTheWholeBody has bytes behind a message: they are its data too, so
// that the sum fits only if it counts them.
func TestGetTakesTheWholeBody(t *testing.T) {
	for size := range 20 {
		m := but(example, func(m *icmp.Message) { m.Body = noise(size, 8) })
		good := plainPut(full, m)
		for _, behind := range [][]byte{{1}, {255}, {1, 2}, noise(18, 4), noise(41, 3)} {
			p := carrying(full, append(bytes.Clone(good.Body), behind...))
			checkRefused(t, p, api.ESUM)
			p.Body = summed(p.Body, 0)
			checkGet(t, p, but(m, func(m *icmp.Message) { m.Body = p.Body[8:] }), api.OK)
		}
		// Zeros do not change the sum, and are data all the same.
		p := carrying(full, append(bytes.Clone(good.Body), 0, 0, 0))
		checkGet(t, p, but(m, func(m *icmp.Message) { m.Body = p.Body[8:] }), api.OK)
	}
}

// TestGetOfEachSum has all checksums with some messages, among them one whose
// checksum comes to 0, where 65535 fits as well, and one of zeros alone, where 0
// does not fit.
func TestGetOfEachSum(t *testing.T) {
	zero := bytes.Clone(exampleBytes)
	zero[6], zero[7] = 0x8f, 0x8a+7
	for _, c := range []struct {
		body []byte
		fits int
	}{
		{exampleBytes, 1},
		{emptyBytes, 1},
		{plainBytes(icmp.Message{Type: 5, Body: []byte{255, 255, 255}}), 1},
		{zero, 2},
	} {
		p, accepted := carrying(carrier, c.body), 0
		for sum := range 65536 {
			p.Body[2], p.Body[3] = byte(sum/256), byte(sum%256)
			checkPlain(t, p)
			if _, e := icmp.Get(p); e == api.OK {
				accepted++
			}
		}
		if accepted != c.fits {
			t.Errorf("P9.1: Get accepts %d checksums of %x instead of %d", accepted, c.body, c.fits)
		}
	}
	// Unlike that of UDP, a checksum of 0 does not tell that there is none.
	none := carrying(carrier, exampleBytes)
	none.Body[2], none.Body[3] = 0, 0
	checkRefused(t, none, api.ESUM)
}

func TestGetOfEachProto(t *testing.T) {
	good := plainPut(carrier, example)
	for proto := -300; proto < 1000; proto++ {
		if proto != 1 {
			checkRefused(t, with(good, func(p *ip4.Packet) { p.Proto = proto }), api.EARG)
		}
	}
	for _, proto := range wrongProtos {
		checkRefused(t, with(good, func(p *ip4.Packet) { p.Proto = proto }), api.EARG)
	}
	checkGet(t, good, example, api.OK)
}

func TestGetOfFragments(t *testing.T) {
	good := plainPut(carrier, example)
	for flags := range 8 {
		for part := range 8192 {
			p := with(good, func(p *ip4.Packet) { p.Flags, p.Part = flags, part })
			if flags%2 == 0 && part == 0 {
				checkGet(t, p, example, api.OK)
			} else {
				checkRefused(t, p, api.EFRAG)
			}
		}
	}
	// Numbers that no field holds, as R6 allows: Get asks ip4.Whole.
	for _, v := range []int{-1, -2, -3, 8, 9, 8192, 65536, 1 << 32, 1<<32 + 1, math.MaxInt, math.MinInt, math.MinInt + 1} {
		for _, p := range []ip4.Packet{
			with(good, func(p *ip4.Packet) { p.Flags = v }),
			with(good, func(p *ip4.Packet) { p.Part = v }),
		} {
			if ip4.Whole(p) {
				checkGet(t, p, example, api.OK)
			} else {
				checkRefused(t, p, api.EFRAG)
			}
		}
	}
}

// TestOrderOfGet has each of the faults together with any of the others that
// come later.
func TestOrderOfGet(t *testing.T) {
	faults := []struct {
		e    api.Errno
		make func(p *ip4.Packet)
	}{
		{api.EARG, func(p *ip4.Packet) { p.Proto = 17 }},
		{api.EFRAG, func(p *ip4.Packet) { p.Part = 5 }},
		{api.EFRAG, func(p *ip4.Packet) { p.Flags = 3 }},
		{api.ESHORT, func(p *ip4.Packet) { p.Body = p.Body[:7] }},
		{api.ESUM, func(p *ip4.Packet) { p.Body[2] ^= 1 }},
	}
	good := plainPut(carrier, example)
	for set := range 1 << len(faults) {
		p, want := carrying(good, good.Body), api.OK
		for i := len(faults) - 1; i >= 0; i-- {
			if set>>i&1 == 1 {
				faults[i].make(&p)
				want = faults[i].e
			}
		}
		if want == api.OK {
			checkGet(t, p, example, api.OK)
			continue
		}
		checkRefused(t, p, want)
	}
}

// TestGetLooksAtNoOtherField has other values in them, wrong ones too: unlike
// those of UDP and TCP, the checksum does not count the addresses.
func TestGetLooksAtNoOtherField(t *testing.T) {
	good := plainPut(carrier, example)
	for _, v := range []int{-1, 0, 1, 255, 256, 65535, 65536, math.MaxInt, math.MinInt} {
		for _, change := range []func(p *ip4.Packet){
			func(p *ip4.Packet) { p.Tos = v },
			func(p *ip4.Packet) { p.ID = v },
			func(p *ip4.Packet) { p.Ttl = v },
			func(p *ip4.Packet) { p.Opts = noise(max(0, min(v, 2000)), 1) },
		} {
			checkGet(t, with(good, change), example, api.OK)
		}
	}
	for at := range 4 {
		for v := range 256 {
			checkGet(t, with(good, func(p *ip4.Packet) { p.From[at] = byte(v) }), example, api.OK)
			checkGet(t, with(good, func(p *ip4.Packet) { p.To[at] = byte(v) }), example, api.OK)
		}
	}
}

func TestPut(t *testing.T) {
	checkPut(t, carrier, example, carrying(carrier, exampleBytes), api.OK)
	checkPut(t, ip4.Packet{}, icmp.Message{}, ip4.Packet{Proto: 1, Body: emptyBytes}, api.OK)
	checkBoth(t, carrier, example)
	checkBoth(t, full, example)
	checkBoth(t, carrier, icmp.Message{Body: []byte{}})
	checkBoth(t, full, most)
	// A checksum that comes to 0 is written as 0.
	checkPut(t, carrier, icmp.Message{Rest: 65535}, carrying(carrier, []byte{0, 0, 0, 0, 0, 0, 255, 255}), api.OK)
}

// TestPutOfEachTypeAndCode has all of them, also those that mean nothing.
func TestPutOfEachTypeAndCode(t *testing.T) {
	for typ := range 256 {
		for code := range 256 {
			checkBoth(t, carrier, icmp.Message{Type: typ, Code: code})
			checkBoth(t, full, but(example, func(m *icmp.Message) { m.Type, m.Code = typ, code }))
		}
	}
}

// TestPutOfWrongNumbers has numbers that no byte holds, and the chapter's
// example.
func TestPutOfWrongNumbers(t *testing.T) {
	checkNotPut(t, carrier, icmp.Message{Type: 256}, api.EARG)
	for _, base := range []icmp.Message{{}, example, noiseMessage(2)} {
		for _, v := range wrongBytes {
			for _, m := range []icmp.Message{
				but(base, func(m *icmp.Message) { m.Type = v }),
				but(base, func(m *icmp.Message) { m.Code = v }),
				but(base, func(m *icmp.Message) { m.Type, m.Code = v, v }),
				but(base, func(m *icmp.Message) { m.Type, m.Code = v, 255 }),
				but(base, func(m *icmp.Message) { m.Type, m.Code = 255, v }),
			} {
				checkNotPut(t, carrier, m, api.EARG)
				checkNotPut(t, full, m, api.EARG)
			}
		}
	}
	for off := 1; off < 3000; off++ {
		for _, v := range []int{-off, 255 + off} {
			checkNotPut(t, carrier, icmp.Message{Type: v}, api.EARG)
			checkNotPut(t, carrier, icmp.Message{Code: v}, api.EARG)
		}
	}
}

func TestPutOfEachLength(t *testing.T) {
	for n := range 1600 {
		m := icmp.Message{Type: n % 256, Code: n / 256, Rest: uint32(n), Body: noise(n, uint32(n))}
		if n > 1472 {
			checkNotPut(t, carrier, m, api.ELIMIT)
			checkNotPut(t, full, m, api.ELIMIT)
			continue
		}
		checkBoth(t, carrier, m)
		checkBoth(t, full, m)
	}
	for _, n := range []int{1473, 1480, 1500, 1514, 32768, 65515, 65527, 65528, 65535, 65536, 65536 + 100, 1 << 24} {
		checkNotPut(t, carrier, icmp.Message{Body: make([]byte, n)}, api.ELIMIT)
	}
}

// TestOrderOfPut has messages that are too long and have wrong numbers.
func TestOrderOfPut(t *testing.T) {
	long := make([]byte, 1473)
	checkNotPut(t, carrier, icmp.Message{Body: long}, api.ELIMIT)
	for _, v := range wrongBytes {
		checkNotPut(t, carrier, icmp.Message{Type: v, Body: long}, api.EARG)
		checkNotPut(t, carrier, icmp.Message{Code: v, Body: long}, api.EARG)
	}
}

// TestPutKeepsTheOtherFields has packets that no longer fit into an IPv4 packet
// as well: that is told by ip4.Put.
func TestPutKeepsTheOtherFields(t *testing.T) {
	for _, v := range []int{-1, 0, 1, 7, 8, 255, 256, 8191, 65535, 65536, math.MaxInt, math.MinInt} {
		for _, change := range []func(p *ip4.Packet){
			func(p *ip4.Packet) { p.Tos = v },
			func(p *ip4.Packet) { p.ID = v },
			func(p *ip4.Packet) { p.Flags = v },
			func(p *ip4.Packet) { p.Part = v },
			func(p *ip4.Packet) { p.Ttl = v },
			func(p *ip4.Packet) { p.Opts = noise(max(0, min(v, 2000)), 1) },
		} {
			p := with(full, change)
			checkPut(t, p, example, plainPut(p, example), api.OK)
		}
	}
	longest := icmp.Message{Body: noise(1472, 1)}
	checkBoth(t, full, longest)
	p, _ := icmp.Put(full, longest)
	if _, e := ip4.Put(p); e != api.ELIMIT {
		t.Errorf("P9.1: Put does not keep Opts: %d", e)
	}
}

// TestPutOfEachProto has packets of other protocols.
func TestPutOfEachProto(t *testing.T) {
	for proto := range 256 {
		checkBoth(t, with(full, func(p *ip4.Packet) { p.Proto = proto }), example)
	}
	for _, proto := range wrongProtos {
		checkBoth(t, with(full, func(p *ip4.Packet) { p.Proto = proto }), example)
	}
}

// TestPutIgnoresTheFormerBody has bodies that are messages, and others.
func TestPutIgnoresTheFormerBody(t *testing.T) {
	for _, body := range [][]byte{nil, {}, {1}, exampleBytes, noise(1480, 1), noise(5000, 2)} {
		checkBoth(t, carrying(full, body), example)
		checkBoth(t, carrying(carrier, body), icmp.Message{})
	}
}

// TestPutOfEachAddr has the addresses, which the checksum does not count.
func TestPutOfEachAddr(t *testing.T) {
	for at := range 4 {
		for v := range 256 {
			checkBoth(t, with(full, func(p *ip4.Packet) { p.From[at] = byte(v) }), example)
			checkBoth(t, with(full, func(p *ip4.Packet) { p.To[at] = byte(v) }), example)
		}
	}
}

// TestSums has messages of all checksums; one that comes to 0 is written as 0,
// and 65535 is that of zeros alone.
func TestSums(t *testing.T) {
	sums := make([]int, 65536)
	for v := range 65536 {
		m := icmp.Message{Type: 1, Body: []byte{byte(v / 256), byte(v % 256)}}
		checkBoth(t, full, m)
		p, e := icmp.Put(full, m)
		if e != api.OK || len(p.Body) != 10 {
			t.Fatalf("P9.1: Put(%v, %v): %v, %d", full, m, p, e)
		}
		sums[pair(p.Body, 2)]++
	}
	for sum, n := range sums[:65535] {
		if n == 0 {
			t.Errorf("P9.1: Put writes the checksum %d never", sum)
		}
	}
	if sums[65535] != 0 {
		t.Errorf("P9.1: Put writes the checksum 0 as 65535")
	}
}

// TestThereAndBack sends messages in packets.
func TestThereAndBack(t *testing.T) {
	for seed := range uint32(2000) {
		p, m := noiseCarrier(seed), noiseMessage(seed)
		checkBoth(t, p, m)
		put, _ := icmp.Put(p, m)
		b, e := ip4.Put(put)
		if e == api.ELIMIT && len(p.Opts)+len(m.Body) > 1472 {
			continue
		}
		got, gotE := ip4.Get(b)
		if e != api.OK || gotE != api.OK {
			t.Fatalf("P9.1: the packet of Put(%v, %v): %d, %d", p, m, e, gotE)
		}
		checkGet(t, got, m, api.OK)
	}
}

// TestNoise has bytes that are hardly ever a message, and such with a sum that
// fits.
func TestNoise(t *testing.T) {
	for seed := range uint32(5000) {
		p := carrying(noiseCarrier(seed), noise(int(seed%100), seed))
		checkPlain(t, p)
		if len(p.Body) < 4 {
			continue
		}
		checkPlain(t, carrying(p, summed(p.Body, 0)))
		checkPlain(t, carrying(p, summed(p.Body, int(seed))))
	}
}

func checkQuery(t *testing.T, m icmp.Message, want int, wantOk bool) {
	t.Helper()
	if id, ok := icmp.Query(m); id != want || ok != wantOk {
		t.Errorf("P9.1: Query(%v): %d, %t instead of %d, %t", m, id, ok, want, wantOk)
	}
}

// TestQuery has the chapter's example, and all types and codes.
func TestQuery(t *testing.T) {
	checkQuery(t, icmp.Message{Type: 8, Code: 0, Rest: 0x00050007}, 5, true)
	checkQuery(t, icmp.Message{}, 0, true)
	for typ := range 300 {
		for code := range 300 {
			m := icmp.Message{Type: typ, Code: code, Rest: 0x12345678, Body: []byte("data")}
			if (typ == 8 || typ == 0) && code == 0 {
				checkQuery(t, m, 0x1234, true)
			} else {
				checkQuery(t, m, 0, false)
			}
		}
	}
	// Numbers of which many become 0 or 8 if they are cut to a byte, or to 32 bits.
	for _, v := range wrongBytes {
		checkQuery(t, icmp.Message{Type: v, Rest: 0x00050007}, 0, false)
		checkQuery(t, icmp.Message{Code: v, Rest: 0x00050007}, 0, false)
		checkQuery(t, icmp.Message{Type: 8, Code: v, Rest: 0x00050007}, 0, false)
		checkQuery(t, icmp.Message{Type: v, Code: v, Rest: 0x00050007}, 0, false)
	}
}

// TestQueryOfEachIdentifier has lower bits that are all 0, all 1, and others,
// and bodies that Put refuses.
func TestQueryOfEachIdentifier(t *testing.T) {
	for id := range 65536 {
		for _, low := range []uint32{0, 65535, uint32(id), 7} {
			for _, typ := range []int{0, 8} {
				m := icmp.Message{Type: typ, Rest: uint32(65536*id) + low}
				checkQuery(t, m, id, true)
				m.Body = make([]byte, 2000)
				checkQuery(t, m, id, true)
			}
		}
	}
}

func TestFault(t *testing.T) {
	faults := map[int]bool{3: true, 11: true, 12: true}
	check := func(m icmp.Message, want bool) {
		t.Helper()
		if icmp.Fault(m) != want {
			t.Errorf("P9.1: Fault(%v): %t", m, !want)
		}
	}
	for typ := -300; typ < 1000; typ++ {
		check(icmp.Message{Type: typ}, faults[typ])
		// The other fields do not matter, and neither do wrong ones among them.
		for _, code := range []int{1, 3, 9, 255, -1, 256, math.MaxInt} {
			check(icmp.Message{Type: typ, Code: code, Rest: 0x00050007, Body: []byte("x")}, faults[typ])
		}
	}
	for _, typ := range []int{3, 11, 12} {
		for _, far := range []int{256, 1 << 16, 1 << 32, math.MinInt, 1 << 62} {
			check(icmp.Message{Type: typ + far}, false)
			check(icmp.Message{Type: typ - far}, false)
		}
		check(icmp.Message{Type: -typ}, false)
	}
}

// TestArgumentsRemain has packets and messages that are accepted and refused,
// and looks behind the ends of their lists too.
func TestArgumentsRemain(t *testing.T) {
	for _, p := range []ip4.Packet{
		full, carrier, noiseCarrier(7), plainPut(full, example), plainPut(carrier, icmp.Message{}),
		plainPut(carrier, icmp.Message{Body: []byte("odd")}), with(plainPut(full, example), func(p *ip4.Packet) { p.Body[8]++ }),
		carrying(carrier, append(bytes.Clone(exampleBytes), 1, 2, 3)), carrying(full, exampleBytes[:7]),
	} {
		for _, m := range []icmp.Message{example, {}, {Type: -1, Body: noise(9, 1)}, noiseMessage(5), {Body: noise(1473, 2)}} {
			p.Opts, p.Body, m.Body = spare(p.Opts), spare(p.Body), spare(m.Body)
			var lists, before [][]byte
			for _, b := range [][]byte{p.Opts, p.Body, m.Body} {
				b = b[:len(b)+40]
				lists, before = append(lists, b), append(before, bytes.Clone(b))
			}
			icmp.Get(p)
			icmp.Put(p, m)
			icmp.Query(m)
			icmp.Fault(m)
			for i, b := range lists {
				if !bytes.Equal(b, before[i]) {
					t.Errorf("R4: Get, Put, Query or Fault of %v and %v changes list %d", p, m, i)
				}
			}
		}
	}
}

// apart are messages whose lists must not share memory with others.
var apart = []icmp.Message{example, {}, {Body: noise(1472, 1)}, {Type: 3, Rest: 8, Body: noise(3, 2)}}

// TestResultsOfGetAreNewMemory ruins arguments and looks at results, and ruins
// results and looks at arguments and other results.
func TestResultsOfGetAreNewMemory(t *testing.T) {
	for _, m := range apart {
		p := plainPut(full, m)
		p.Body = spare(p.Body)
		got, _ := icmp.Get(p)
		again, _ := icmp.Get(p)
		ruin(again.Body)
		checkGet(t, p, m, api.OK)
		ruin(p.Body)
		if !sameMessage(got, m) {
			t.Errorf("R4: results of Get share memory: %v instead of %v", got, m)
		}
	}
}

// TestResultsOfPutAreNewMemory does the same with Put, and with both lists of
// one result.
func TestResultsOfPutAreNewMemory(t *testing.T) {
	for _, base := range []ip4.Packet{full, carrier, noiseCarrier(10), plainPut(full, example)} {
		for _, m := range apart {
			want := plainPut(base, m)
			p, own := base, m
			p.Opts, p.Body, own.Body = spare(base.Opts), spare(base.Body), spare(m.Body)
			put, _ := icmp.Put(p, own)
			again, _ := icmp.Put(p, own)
			ruin(again.Opts)
			ruin(again.Body)
			checkPut(t, p, own, want, api.OK)
			for _, b := range [][]byte{p.Opts, p.Body, own.Body} {
				ruin(b)
			}
			if !same(put, want) {
				t.Errorf("R4: results of Put share memory: %v instead of %v", put, want)
			}
			ruin(put.Opts)
			if !bytes.Equal(put.Body, want.Body) {
				t.Errorf("R4: the Opts and the Body of a result of Put share memory: %v", want)
			}
		}
	}
}

// TestPutOfAPacketsOwnLists has messages whose Body is memory of the packet.
func TestPutOfAPacketsOwnLists(t *testing.T) {
	p := plainPut(full, example)
	m, _ := icmp.Get(p)
	for _, own := range [][]byte{p.Body, p.Body[8:], p.Body[:4], p.Opts} {
		m.Body = own
		checkPut(t, p, m, plainPut(p, m), api.OK)
	}
}

// TestResultsDependOnArgumentsAlone makes calls that succeed and that fail
// between those whose results it looks at.
func TestResultsDependOnArgumentsAlone(t *testing.T) {
	good := carrying(carrier, exampleBytes)
	for seed := range uint32(5) {
		p, m := noiseCarrier(seed), noiseMessage(seed)
		busy, _ := icmp.Put(p, m)
		icmp.Put(p, icmp.Message{Type: -1, Body: noise(9, seed)})
		icmp.Put(p, icmp.Message{Body: noise(1473, seed)})
		checkPut(t, carrier, example, good, api.OK)
		icmp.Get(busy)
		icmp.Get(p)
		icmp.Get(with(good, func(p *ip4.Packet) { p.Body[8]++ }))
		icmp.Get(with(good, func(p *ip4.Packet) { p.Part = 1 }))
		checkGet(t, good, example, api.OK)
		icmp.Query(m)
		icmp.Fault(m)
		checkQuery(t, example, 5, true)
	}
}
