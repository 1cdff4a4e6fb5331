package tcp_test

import (
	"bytes"
	"math"
	"testing"

	"gatehouse/api"
	"gatehouse/ip4"
	"gatehouse/tcp"
)

// example is a segment with a value in each field, and carrier a packet that it
// is put into. Their checksum, 0xf69f, was computed by hand.
var (
	carrier = ip4.Packet{Ttl: 64, Proto: 6, From: api.Addr{10, 0, 0, 1}, To: api.Addr{8, 8, 4, 4}}
	example = tcp.Segment{
		From: 80, To: 258, Seq: 0x01020304, Ack: 0x05060708, Flags: 18, Window: 512, Urgent: 3,
		Opts: []byte{2, 4, 5, 180}, Body: []byte("x"),
	}
	exampleBytes = []byte{
		0, 80, 1, 2, 1, 2, 3, 4, 5, 6, 7, 8, 0x60, 18, 2, 0, 0xf6, 0x9f, 0, 3,
		2, 4, 5, 180, 'x',
	}
)

// emptyBytes is the segment without a value in any field, in a packet without
// any, too: its checksum comes from 6, 20 and 0x5000.
var emptyBytes = []byte{0, 0, 0, 0, 0, 0, 0, 0, 0, 0, 0, 0, 0x50, 0, 0, 0, 0xaf, 0xe5, 0, 0}

// full is a packet with a value in each field.
var full = ip4.Packet{
	Tos: 0x12, ID: 0x3456, Flags: 2, Ttl: 200, Proto: 6,
	From: api.Addr{192, 168, 1, 20},
	To:   api.Addr{255, 255, 255, 255},
	Opts: []byte{1, 7, 3, 0},
	Body: []byte("something"),
}

// wrongPairs are numbers that two bytes do not hold, and wrongFlags such that
// six bits do not hold.
var (
	wrongPairs = []int{-1, -2, -80, -65535, -65536, -65537, 65536, 65537, 65616, 131071, 1 << 20, 1 << 32, 1<<32 + 80, math.MaxInt, math.MaxInt - 1, math.MinInt, math.MinInt + 80}
	wrongFlags = []int{-1, -2, -46, -63, -64, -65, 64, 65, 66, 80, 82, 127, 128, 192, 255, 256, 256 + 2, 65535, 65536, 65536 + 2, 1 << 32, 1<<32 + 2, math.MaxInt, math.MinInt, math.MinInt + 2}
)

// wrongProtos are numbers of other protocols and numbers that one byte does not
// hold.
var wrongProtos = []int{-1, -6, -250, -251, 0, api.ICMP, api.UDP, 5, 7, 255, 256, 256 + 6, 512 + 6, 1<<16 + 6, 1<<32 + 6, math.MaxInt, math.MinInt, math.MinInt + 6}

// noise returns n bytes that look irregular and depend on seed alone.
func noise(n int, seed uint32) []byte {
	b := make([]byte, n)
	for i := range b {
		seed = seed*1664525 + 1013904223
		b[i] = byte(seed >> 24)
	}
	return b
}

// pair and quad return the numbers of the bytes of b that begin at at.
func pair(b []byte, at int) int { return 256*int(b[at]) + int(b[at+1]) }

func quad(b []byte, at int) uint32 { return uint32(65536*pair(b, at) + pair(b, at+2)) }

// noiseCarrier returns a packet with such bytes and numbers in it that is not a
// fragment.
func noiseCarrier(seed uint32) ip4.Packet {
	b := noise(16, seed)
	return ip4.Packet{
		Tos: int(b[0]), ID: pair(b, 1), Flags: 2 * int(b[3]%4), Ttl: int(b[4]), Proto: 6,
		From: api.Addr(b[8:12]), To: api.Addr(b[12:16]),
		Opts: noise(4*int(seed%11), seed+1),
		Body: noise(int(seed%5), seed+2),
	}
}

// noiseSegment returns a segment of any length that Put accepts.
func noiseSegment(seed uint32) tcp.Segment {
	b := noise(17, seed+3)
	opts := 4 * int(seed/11%11)
	return tcp.Segment{
		From: pair(b, 0), To: pair(b, 2), Seq: quad(b, 4), Ack: quad(b, 8),
		Flags: int(b[12]) % 64, Window: pair(b, 13), Urgent: pair(b, 15),
		Opts: noise(opts, seed+4),
		Body: noise(int(seed*7)%(1461-opts), seed+5),
	}
}

// spare returns b in memory that goes on for 40 bytes behind its end.
func spare(b []byte) []byte {
	long := append(bytes.Clone(b), bytes.Repeat([]byte{0xee}, 40)...)
	return long[:len(b)]
}

// same reports whether two packets agree in all their fields: a nil list and an
// empty one are equivalent.
func same(p, q ip4.Packet) bool {
	return p.Tos == q.Tos && p.ID == q.ID && p.Flags == q.Flags && p.Part == q.Part &&
		p.Ttl == q.Ttl && p.Proto == q.Proto && p.From == q.From && p.To == q.To &&
		bytes.Equal(p.Opts, q.Opts) && bytes.Equal(p.Body, q.Body)
}

func sameSegment(s, g tcp.Segment) bool {
	return s.From == g.From && s.To == g.To && s.Seq == g.Seq && s.Ack == g.Ack &&
		s.Flags == g.Flags && s.Window == g.Window && s.Urgent == g.Urgent &&
		bytes.Equal(s.Opts, g.Opts) && bytes.Equal(s.Body, g.Body)
}

// with returns p, with lists of its own, after it has been changed.
func with(p ip4.Packet, change func(p *ip4.Packet)) ip4.Packet {
	p.Opts, p.Body = bytes.Clone(p.Opts), bytes.Clone(p.Body)
	change(&p)
	return p
}

// but returns s after it has been changed.
func but(s tcp.Segment, change func(s *tcp.Segment)) tcp.Segment {
	change(&s)
	return s
}

// carrying returns p with a copy of a body.
func carrying(p ip4.Packet, body []byte) ip4.Packet {
	return with(p, func(p *ip4.Packet) { p.Body = bytes.Clone(body) })
}

// plainSum is the checksum of a segment between two addresses from 0 to 65534,
// computed by remainders, where the bytes of the checksum itself do not count.
func plainSum(from, to api.Addr, b []byte) int {
	sum := 6 + len(b)%65536
	for i := 0; i < 4; i += 2 {
		sum += pair(from[:], i) + pair(to[:], i)
	}
	for i, c := range b {
		switch {
		case i == 16 || i == 17:
		case i%2 == 0:
			sum += 256 * int(c)
		default:
			sum += int(c)
		}
	}
	return (65535 - sum%65535) % 65535
}

// summed returns b with the checksum of the segment that it is; or with a wrong
// one, that is off by some number.
func summed(p ip4.Packet, b []byte, off int) []byte {
	b = bytes.Clone(b)
	sum := (plainSum(p.From, p.To, b) + off) % 65535
	b[16], b[17] = byte(sum/256), byte(sum%256)
	return b
}

// plainGet is the word of the chapter, byte by byte.
func plainGet(p ip4.Packet) (tcp.Segment, api.Errno) {
	b := p.Body
	if p.Proto != 6 {
		return tcp.Segment{}, api.EARG
	}
	if p.Part != 0 || p.Flags%2 != 0 {
		return tcp.Segment{}, api.EFRAG
	}
	if len(b) < 20 {
		return tcp.Segment{}, api.ESHORT
	}
	head := int(b[12]) / 16 * 4
	switch {
	case head < 20:
		return tcp.Segment{}, api.EFORM
	case len(b) < head:
		return tcp.Segment{}, api.ESHORT
	case pair(b, 16)%65535 != plainSum(p.From, p.To, b):
		return tcp.Segment{}, api.ESUM
	}
	return tcp.Segment{
		From: pair(b, 0), To: pair(b, 2), Seq: quad(b, 4), Ack: quad(b, 8),
		Flags: int(b[13]) % 64, Window: pair(b, 14), Urgent: pair(b, 18),
		Opts: b[20:head], Body: b[head:],
	}, api.OK
}

// plainBytes is the word of the chapter for the body of a packet with a segment
// that Put accepts.
func plainBytes(p ip4.Packet, s tcp.Segment) []byte {
	b := make([]byte, 20)
	put := func(at, v int) { b[at], b[at+1] = byte(v/256), byte(v%256) }
	put(0, s.From)
	put(2, s.To)
	put(4, int(s.Seq/65536))
	put(6, int(s.Seq%65536))
	put(8, int(s.Ack/65536))
	put(10, int(s.Ack%65536))
	b[12], b[13] = byte(16*(5+len(s.Opts)/4)), byte(s.Flags)
	put(14, s.Window)
	put(18, s.Urgent)
	return summed(p, append(append(b, s.Opts...), s.Body...), 0)
}

// plainPut is the packet with that body.
func plainPut(p ip4.Packet, s tcp.Segment) ip4.Packet {
	return with(p, func(p *ip4.Packet) { p.Proto, p.Body = 6, plainBytes(*p, s) })
}

func checkGet(t *testing.T, p ip4.Packet, want tcp.Segment, wantE api.Errno) {
	t.Helper()
	s, e := tcp.Get(p)
	if e != wantE {
		t.Errorf("P8.1: Get(%v): %d instead of %d", p, e, wantE)
	}
	if !sameSegment(s, want) {
		t.Errorf("P8.1, R2: Get(%v) with the error %d: %v instead of %v", p, e, s, want)
	}
}

// checkRefused has a packet that contains no segment.
func checkRefused(t *testing.T, p ip4.Packet, want api.Errno) {
	t.Helper()
	checkGet(t, p, tcp.Segment{}, want)
}

// checkPlain has a packet with which Get does what plainGet does.
func checkPlain(t *testing.T, p ip4.Packet) {
	t.Helper()
	want, wantE := plainGet(p)
	checkGet(t, p, want, wantE)
}

func checkPut(t *testing.T, p ip4.Packet, s tcp.Segment, want ip4.Packet, wantE api.Errno) {
	t.Helper()
	q, e := tcp.Put(p, s)
	if e != wantE {
		t.Errorf("P8.1: Put(%v, %v): %d instead of %d", p, s, e, wantE)
	}
	if !same(q, want) {
		t.Errorf("P8.1, R2: Put(%v, %v) with the error %d: %v instead of %v", p, s, e, q, want)
	}
}

func checkNotPut(t *testing.T, p ip4.Packet, s tcp.Segment, want api.Errno) {
	t.Helper()
	checkPut(t, p, s, ip4.Packet{}, want)
}

// checkBoth has a segment that Put accepts, and Get takes from there again.
func checkBoth(t *testing.T, p ip4.Packet, s tcp.Segment) {
	t.Helper()
	want := plainPut(p, s)
	checkPut(t, p, s, want, api.OK)
	checkGet(t, want, s, api.OK)
}

func TestGet(t *testing.T) {
	checkGet(t, carrying(carrier, exampleBytes), example, api.OK)
	checkGet(t, plainPut(full, example), example, api.OK)
	checkGet(t, carrying(ip4.Packet{Proto: 6}, emptyBytes), tcp.Segment{}, api.OK)
	// The greatest numbers and the longest header.
	most := append(bytes.Repeat([]byte{255}, 60), "body"...)
	checkGet(t, carrying(carrier, summed(carrier, most, 0)), tcp.Segment{
		From: 65535, To: 65535, Seq: 1<<32 - 1, Ack: 1<<32 - 1, Flags: 63, Window: 65535, Urgent: 65535,
		Opts: bytes.Repeat([]byte{255}, 40), Body: []byte("body"),
	}, api.OK)
}

// TestGetOfTheChaptersExample has a packet of another protocol.
func TestGetOfTheChaptersExample(t *testing.T) {
	good := plainPut(carrier, example)
	for _, change := range []func(p *ip4.Packet){
		func(p *ip4.Packet) {},
		func(p *ip4.Packet) { p.Part = 5 },
		func(p *ip4.Packet) { p.Flags = 1 },
		func(p *ip4.Packet) { p.Flags, p.Part = 3, 8191 },
	} {
		p := with(good, change)
		p.Proto = 17
		checkRefused(t, p, api.EARG)
	}
}

// TestGetOfEachByte puts all values at each place of segments, with the sum that
// was right before, with the one that is now, and with a wrong one.
func TestGetOfEachByte(t *testing.T) {
	for _, base := range []ip4.Packet{
		plainPut(carrier, example),
		plainPut(carrier, tcp.Segment{Flags: 16, Body: []byte("hello")}),
		plainPut(full, but(noiseSegment(1), func(s *tcp.Segment) { s.Opts, s.Body = noise(40, 2), noise(100, 3) })),
		plainPut(noiseCarrier(3), but(noiseSegment(4), func(s *tcp.Segment) { s.Body = []byte{255} })),
	} {
		for at := range min(len(base.Body), 70) {
			for v := range 256 {
				p := with(base, func(p *ip4.Packet) { p.Body[at] = byte(v) })
				checkPlain(t, p)
				checkPlain(t, carrying(p, summed(p, p.Body, 0)))
				checkPlain(t, carrying(p, summed(p, p.Body, 1)))
			}
		}
	}
}

// TestGetOfEachBit has the bits of the two long numbers, one by one.
func TestGetOfEachBit(t *testing.T) {
	for bit := range 32 {
		for _, s := range []tcp.Segment{{Seq: 1 << bit}, {Ack: 1 << bit}, {Seq: 1<<bit - 1, Ack: 1 << bit}, {Seq: ^uint32(1 << bit), Ack: 7}} {
			checkBoth(t, carrier, s)
		}
	}
}

// TestGetIgnoresBits has all values of the byte of the header's length and of
// that of the flags, whose other bits are ignored.
func TestGetIgnoresBits(t *testing.T) {
	for low := range 16 {
		for flags := range 256 {
			p := plainPut(carrier, example)
			p.Body[12] = byte(0x60 + low)
			p.Body[13] = byte(flags)
			p.Body = summed(p, p.Body, 0)
			checkGet(t, p, but(example, func(s *tcp.Segment) { s.Flags = flags % 64 }), api.OK)
			// They are in the checksum all the same.
			if low > 0 || flags > 63 {
				p.Body = bytes.Clone(plainBytes(p, but(example, func(s *tcp.Segment) { s.Flags = flags % 64 })))
				p.Body[12] = byte(0x60 + low)
				p.Body[13] = byte(flags)
				checkRefused(t, p, api.ESUM)
			}
		}
	}
}

// TestGetOfEachSize has all bytes that some segments begin with: 20 and more of
// them contain a header, but not the whole one, or no right sum.
func TestGetOfEachSize(t *testing.T) {
	for _, base := range []ip4.Packet{
		carrying(carrier, exampleBytes), plainPut(full, noiseSegment(9)), plainPut(carrier, tcp.Segment{}),
		plainPut(carrier, tcp.Segment{Opts: noise(40, 1)}), plainPut(carrier, tcp.Segment{Body: noise(1460, 2)}),
	} {
		head := int(base.Body[12]) / 16 * 4
		for n := range base.Body {
			p := base
			p.Body = base.Body[:n]
			if n < head {
				// The rest is not taken from behind the end.
				checkRefused(t, p, api.ESHORT)
				checkRefused(t, carrying(p, p.Body), api.ESHORT)
				continue
			}
			checkPlain(t, p)
			checkPlain(t, carrying(p, summed(p, p.Body, 0)))
			checkRefused(t, carrying(p, summed(p, p.Body, 2)), api.ESUM)
		}
		checkPlain(t, base)
	}
	for n := range 20 {
		for _, c := range []byte{0, 0x40, 0x50, 255} {
			checkRefused(t, carrying(carrier, bytes.Repeat([]byte{c}, n)), api.ESHORT)
		}
	}
	checkRefused(t, with(carrier, func(p *ip4.Packet) { p.Body = nil }), api.ESHORT)
	checkRefused(t, with(carrier, func(p *ip4.Packet) { p.Body = make([]byte, 0, 100) }), api.ESHORT)
}

// TestGetOfEachHeader has all lengths of the header in bodies of all sizes
// around them, with the right checksum and a wrong one.
func TestGetOfEachHeader(t *testing.T) {
	for units := range 16 {
		for size := 20; size < 70; size++ {
			b := noise(size, uint32(size))
			b[12] = byte(16*units + size%16)
			right, wrong := carrying(full, summed(full, b, 0)), carrying(full, summed(full, b, 77))
			switch {
			case units < 5:
				checkRefused(t, right, api.EFORM)
				checkRefused(t, wrong, api.EFORM)
			case 4*units > size:
				checkRefused(t, right, api.ESHORT)
				checkRefused(t, wrong, api.ESHORT)
			default:
				checkRefused(t, wrong, api.ESUM)
				s, e := tcp.Get(right)
				if e != api.OK || !bytes.Equal(s.Opts, b[20:4*units]) || !bytes.Equal(s.Body, b[4*units:]) {
					t.Errorf("P8.1: Get of a header of %d bytes in %d: %v, %d", 4*units, size, s, e)
				}
				checkPlain(t, right)
			}
		}
	}
}

// TestGetOfLongBodies has bodies beyond what Put writes, and beyond what the two
// bytes of the length in the pseudo header hold: Get accepts whatever is there.
func TestGetOfLongBodies(t *testing.T) {
	for _, n := range []int{1479, 1480, 1481, 1500, 32767, 32768, 65534, 65535, 65536, 65537, 65556, 100001} {
		b := noise(n, uint32(n))
		b[12] = 0x7a
		p := carrying(full, summed(full, b, 0))
		checkPlain(t, p)
		if s, e := tcp.Get(p); e != api.OK || len(s.Body) != n-28 {
			t.Errorf("P8.1: Get of %d bytes: %d bytes, %d", n, len(s.Body), e)
		}
		checkRefused(t, carrying(full, summed(full, b, 3)), api.ESUM)
	}
}

// TestGetTakesTheWholeBody has bytes behind a segment: they are its data too, so
// that its sum no longer fits, and does once it counts them.
func TestGetTakesTheWholeBody(t *testing.T) {
	for size := range 20 {
		s := but(example, func(s *tcp.Segment) { s.Body = noise(size, 8) })
		good := plainPut(full, s)
		for _, behind := range [][]byte{{0}, {255}, {1, 2}, make([]byte, 18), noise(41, 3)} {
			p := carrying(full, append(bytes.Clone(good.Body), behind...))
			checkRefused(t, p, api.ESUM)
			p.Body = summed(p, p.Body, 0)
			checkGet(t, p, but(s, func(s *tcp.Segment) { s.Body = p.Body[24:] }), api.OK)
		}
	}
}

// TestGetOfEachSum has all checksums with some segments, among them one whose
// checksum comes to 0, where 65535 fits as well. Without a checksum, a segment
// is not accepted.
func TestGetOfEachSum(t *testing.T) {
	// What the checksum of the example was, Urgent has in addition.
	zero := bytes.Clone(exampleBytes)
	zero[18], zero[19] = 0xf6, 0x9f+3
	for _, c := range []struct {
		p    ip4.Packet
		fits int
	}{
		{carrying(carrier, exampleBytes), 1},
		{carrying(ip4.Packet{Proto: 6}, emptyBytes), 1},
		{plainPut(full, tcp.Segment{Body: []byte{255, 255, 255}}), 1},
		{carrying(carrier, zero), 2},
	} {
		right, accepted := plainSum(c.p.From, c.p.To, c.p.Body), 0
		for sum := range 65536 {
			c.p.Body[16], c.p.Body[17] = byte(sum/256), byte(sum%256)
			checkPlain(t, c.p)
			if _, e := tcp.Get(c.p); e == api.OK {
				accepted++
			}
		}
		if accepted != c.fits || (right == 0) != (c.fits == 2) {
			t.Errorf("P8.1: Get accepts %d checksums of %x, of which %d is right", accepted, c.p.Body, right)
		}
	}
	none := carrying(carrier, exampleBytes)
	none.Body[16], none.Body[17] = 0, 0
	checkRefused(t, none, api.ESUM)
}

// TestGetOfEachAddr changes each byte of the addresses, which the checksum
// counts too.
func TestGetOfEachAddr(t *testing.T) {
	good := plainPut(carrier, example)
	for at := range 4 {
		for v := range 256 {
			for _, change := range []func(p *ip4.Packet){
				func(p *ip4.Packet) { p.From[at] = byte(v) },
				func(p *ip4.Packet) { p.To[at] = byte(v) },
			} {
				p := with(good, change)
				if p.From == carrier.From && p.To == carrier.To {
					checkGet(t, p, example, api.OK)
				} else {
					checkRefused(t, p, api.ESUM)
				}
				checkGet(t, carrying(p, plainBytes(p, example)), example, api.OK)
			}
		}
	}
}

func TestGetOfEachProto(t *testing.T) {
	good := plainPut(carrier, example)
	for proto := -300; proto < 1000; proto++ {
		if proto != 6 {
			checkRefused(t, with(good, func(p *ip4.Packet) { p.Proto = proto }), api.EARG)
		}
	}
	for _, proto := range wrongProtos {
		checkRefused(t, with(good, func(p *ip4.Packet) { p.Proto = proto }), api.EARG)
	}
	checkGet(t, good, example, api.OK)
}

func TestGetOfFragments(t *testing.T) {
	good := plainPut(carrier, example)
	for flags := range 8 {
		for part := range 8192 {
			p := with(good, func(p *ip4.Packet) { p.Flags, p.Part = flags, part })
			if flags%2 == 0 && part == 0 {
				checkGet(t, p, example, api.OK)
			} else {
				checkRefused(t, p, api.EFRAG)
			}
		}
	}
	// Numbers that no field holds, as R6 allows: Get asks ip4.Whole.
	for _, v := range []int{-1, -2, -3, 8, 9, 8192, 65536, 1 << 32, 1<<32 + 1, math.MaxInt, math.MinInt, math.MinInt + 1} {
		for _, p := range []ip4.Packet{
			with(good, func(p *ip4.Packet) { p.Flags = v }),
			with(good, func(p *ip4.Packet) { p.Part = v }),
		} {
			if ip4.Whole(p) {
				checkGet(t, p, example, api.OK)
			} else {
				checkRefused(t, p, api.EFRAG)
			}
		}
	}
}

// TestOrderOfGet has each of the faults together with any of the others that
// come later.
func TestOrderOfGet(t *testing.T) {
	faults := []struct {
		e    api.Errno
		make func(p *ip4.Packet)
	}{
		{api.EARG, func(p *ip4.Packet) { p.Proto = 17 }},
		{api.EFRAG, func(p *ip4.Packet) { p.Part = 5 }},
		{api.EFRAG, func(p *ip4.Packet) { p.Flags = 3 }},
		{api.ESHORT, func(p *ip4.Packet) { p.Body = p.Body[:19] }},
		{api.EFORM, func(p *ip4.Packet) { p.Body[12] = 0x4f }},
		{api.ESHORT, func(p *ip4.Packet) { p.Body[12] = 0x70 }},
		{api.ESUM, func(p *ip4.Packet) { p.Body[16] ^= 1 }},
	}
	good := plainPut(carrier, example)
	for set := range 1 << len(faults) {
		p, want := carrying(good, good.Body), api.OK
		for i := len(faults) - 1; i >= 0; i-- {
			if set>>i&1 == 1 {
				faults[i].make(&p)
				want = faults[i].e
			}
		}
		if want == api.OK {
			checkGet(t, p, example, api.OK)
			continue
		}
		checkRefused(t, p, want)
	}
	// A header that tells less than 20 bytes, in fewer bytes than 20.
	short := make([]byte, 19)
	checkRefused(t, carrying(carrier, short), api.ESHORT)
	checkRefused(t, carrying(carrier, append(short, 0)), api.EFORM)
	checkRefused(t, carrying(carrier, short[:13]), api.ESHORT)
	checkRefused(t, carrying(carrier, short[:12]), api.ESHORT)
}

// TestGetLooksAtNoOtherField has other values in them, wrong ones too.
func TestGetLooksAtNoOtherField(t *testing.T) {
	good := plainPut(carrier, example)
	for _, v := range []int{-1, 0, 1, 255, 256, 65535, 65536, math.MaxInt, math.MinInt} {
		for _, change := range []func(p *ip4.Packet){
			func(p *ip4.Packet) { p.Tos = v },
			func(p *ip4.Packet) { p.ID = v },
			func(p *ip4.Packet) { p.Ttl = v },
			func(p *ip4.Packet) { p.Opts = noise(max(0, min(v, 2000)), 1) },
		} {
			checkGet(t, with(good, change), example, api.OK)
		}
	}
}

func TestPut(t *testing.T) {
	checkPut(t, carrier, example, carrying(carrier, exampleBytes), api.OK)
	checkPut(t, ip4.Packet{}, tcp.Segment{}, ip4.Packet{Proto: 6, Body: emptyBytes}, api.OK)
	checkBoth(t, carrier, example)
	checkBoth(t, full, example)
	checkBoth(t, carrier, tcp.Segment{})
	checkBoth(t, carrier, tcp.Segment{Opts: []byte{}, Body: []byte{}})
	checkBoth(t, full, tcp.Segment{
		From: 65535, To: 65535, Seq: 1<<32 - 1, Ack: 1<<32 - 1, Flags: 63, Window: 65535, Urgent: 65535,
		Opts: bytes.Repeat([]byte{255}, 40), Body: []byte{255, 255},
	})
}

// TestPutOfEachPair has all values of the fields of two bytes.
func TestPutOfEachPair(t *testing.T) {
	for v := range 65536 {
		checkBoth(t, carrier, tcp.Segment{From: v, To: 99, Body: []byte("from")})
		checkBoth(t, carrier, tcp.Segment{From: 1234, To: v, Opts: noise(4, 1)})
		checkBoth(t, carrier, tcp.Segment{Window: v, Urgent: 7, Body: []byte("window")})
		checkBoth(t, carrier, tcp.Segment{Window: 8, Urgent: v})
	}
}

func TestPutOfEachFlag(t *testing.T) {
	for flags := range 64 {
		checkBoth(t, carrier, tcp.Segment{Flags: flags})
		checkBoth(t, full, but(example, func(s *tcp.Segment) { s.Flags = flags }))
	}
}

// spoilt returns segments in which one field has the value v.
func spoilt(s tcp.Segment, v int) []tcp.Segment {
	return []tcp.Segment{
		but(s, func(s *tcp.Segment) { s.From = v }),
		but(s, func(s *tcp.Segment) { s.To = v }),
		but(s, func(s *tcp.Segment) { s.Window = v }),
		but(s, func(s *tcp.Segment) { s.Urgent = v }),
	}
}

// TestPutOfWrongNumbers has numbers that do not fit into their fields, one by
// one, and several of them.
func TestPutOfWrongNumbers(t *testing.T) {
	for _, base := range []tcp.Segment{{}, example, noiseSegment(2)} {
		for _, v := range wrongPairs {
			for _, s := range spoilt(base, v) {
				checkNotPut(t, carrier, s, api.EARG)
				checkNotPut(t, full, s, api.EARG)
				checkNotPut(t, full, but(s, func(s *tcp.Segment) { s.Flags = 64 }), api.EARG)
			}
			checkNotPut(t, carrier, but(base, func(s *tcp.Segment) { s.From, s.To, s.Window, s.Urgent = v, v, v, v }), api.EARG)
		}
		for _, v := range wrongFlags {
			checkNotPut(t, carrier, but(base, func(s *tcp.Segment) { s.Flags = v }), api.EARG)
		}
	}
	for off := 1; off < 2000; off++ {
		for _, v := range []int{-off, 65535 + off} {
			for _, s := range spoilt(tcp.Segment{}, v) {
				checkNotPut(t, carrier, s, api.EARG)
			}
		}
		checkNotPut(t, carrier, tcp.Segment{Flags: -off}, api.EARG)
		checkNotPut(t, carrier, tcp.Segment{Flags: 63 + off}, api.EARG)
	}
}

// TestPutOfEachOpts has options of all lengths, of which a header has room for
// those of up to 40 bytes in units of four.
func TestPutOfEachOpts(t *testing.T) {
	for n := range 300 {
		s := but(example, func(s *tcp.Segment) { s.Opts = noise(n, uint32(n)) })
		if n > 40 || n%4 != 0 {
			checkNotPut(t, carrier, s, api.EARG)
			checkNotPut(t, full, tcp.Segment{Opts: s.Opts}, api.EARG)
			continue
		}
		checkBoth(t, carrier, s)
		checkBoth(t, full, tcp.Segment{Opts: s.Opts})
	}
	for _, n := range []int{1024, 1 << 16, 1<<16 + 4, 1<<16 + 40} {
		checkNotPut(t, carrier, tcp.Segment{Opts: make([]byte, n)}, api.EARG)
	}
}

// TestPutOfEachLength has bodies of all lengths, of which there is room for
// 1460 bytes less the options; and the chapter's example.
func TestPutOfEachLength(t *testing.T) {
	checkNotPut(t, carrier, tcp.Segment{Body: make([]byte, 1461)}, api.ELIMIT)
	for n := range 1600 {
		s := tcp.Segment{From: n, To: 2 * n, Body: noise(n, uint32(n))}
		if n > 1460 {
			checkNotPut(t, carrier, s, api.ELIMIT)
			checkNotPut(t, full, s, api.ELIMIT)
			continue
		}
		checkBoth(t, carrier, s)
		checkBoth(t, full, s)
	}
	for opts := 0; opts <= 40; opts += 4 {
		checkBoth(t, full, tcp.Segment{Opts: noise(opts, 1), Body: noise(1459-opts, 2)})
		checkBoth(t, full, tcp.Segment{Opts: noise(opts, 1), Body: noise(1460-opts, 2)})
		checkNotPut(t, full, tcp.Segment{Opts: noise(opts, 1), Body: noise(1461-opts, 2)}, api.ELIMIT)
	}
	for _, n := range []int{1480, 1500, 1514, 32768, 65515, 65516, 65535, 65536, 65536 + 100, 1 << 24} {
		checkNotPut(t, carrier, tcp.Segment{Body: make([]byte, n)}, api.ELIMIT)
	}
}

// TestOrderOfPut has segments that are too long and have wrong numbers or
// options.
func TestOrderOfPut(t *testing.T) {
	long := tcp.Segment{Body: make([]byte, 1461)}
	checkNotPut(t, carrier, long, api.ELIMIT)
	for _, v := range wrongPairs {
		for _, s := range spoilt(long, v) {
			checkNotPut(t, carrier, s, api.EARG)
		}
	}
	for _, v := range wrongFlags {
		checkNotPut(t, carrier, but(long, func(s *tcp.Segment) { s.Flags = v }), api.EARG)
	}
	for _, n := range []int{1, 2, 3, 39, 41, 44, 1500} {
		checkNotPut(t, carrier, but(long, func(s *tcp.Segment) { s.Opts = make([]byte, n) }), api.EARG)
	}
}

// TestPutKeepsTheOtherFields has packets that no longer fit into an IPv4 packet
// as well: that is told by ip4.Put.
func TestPutKeepsTheOtherFields(t *testing.T) {
	for _, v := range []int{-1, 0, 1, 7, 8, 255, 256, 8191, 65535, 65536, math.MaxInt, math.MinInt} {
		for _, change := range []func(p *ip4.Packet){
			func(p *ip4.Packet) { p.Tos = v },
			func(p *ip4.Packet) { p.ID = v },
			func(p *ip4.Packet) { p.Flags = v },
			func(p *ip4.Packet) { p.Part = v },
			func(p *ip4.Packet) { p.Ttl = v },
			func(p *ip4.Packet) { p.Opts = noise(max(0, min(v, 2000)), 1) },
		} {
			p := with(full, change)
			checkPut(t, p, example, plainPut(p, example), api.OK)
		}
	}
	most := tcp.Segment{Body: noise(1460, 1)}
	checkBoth(t, full, most)
	p, _ := tcp.Put(full, most)
	if _, e := ip4.Put(p); e != api.ELIMIT {
		t.Errorf("P8.1: Put does not keep Opts: %d", e)
	}
}

// TestPutOfEachProto has packets of other protocols, which the checksum must not
// count.
func TestPutOfEachProto(t *testing.T) {
	for proto := range 256 {
		checkBoth(t, with(full, func(p *ip4.Packet) { p.Proto = proto }), example)
	}
	for _, proto := range wrongProtos {
		checkBoth(t, with(full, func(p *ip4.Packet) { p.Proto = proto }), example)
	}
}

// TestPutIgnoresTheFormerBody has bodies that are segments, and others.
func TestPutIgnoresTheFormerBody(t *testing.T) {
	for _, body := range [][]byte{nil, {}, {1}, exampleBytes, noise(1480, 1), noise(5000, 2)} {
		checkBoth(t, carrying(full, body), example)
		checkBoth(t, carrying(carrier, body), tcp.Segment{})
	}
}

// TestPutOfEachAddr has the addresses in the checksum, byte by byte.
func TestPutOfEachAddr(t *testing.T) {
	for at := range 4 {
		for v := range 256 {
			checkBoth(t, with(full, func(p *ip4.Packet) { p.From[at] = byte(v) }), example)
			checkBoth(t, with(full, func(p *ip4.Packet) { p.To[at] = byte(v) }), example)
		}
	}
}

// TestSums has segments of all checksums; unlike in a UDP datagram, one that
// comes to 0 is written as 0.
func TestSums(t *testing.T) {
	sums := make([]int, 65536)
	for v := range 65536 {
		s := tcp.Segment{From: 1, To: 2, Body: []byte{byte(v / 256), byte(v % 256)}}
		checkBoth(t, full, s)
		p, e := tcp.Put(full, s)
		if e != api.OK || len(p.Body) != 22 {
			t.Fatalf("P8.1: Put(%v, %v): %v, %d", full, s, p, e)
		}
		sums[pair(p.Body, 16)]++
	}
	for sum, n := range sums[:65535] {
		if n == 0 {
			t.Errorf("P8.1: Put writes the checksum %d never", sum)
		}
	}
	if sums[65535] != 0 {
		t.Errorf("P8.1: Put writes the checksum 0 as 65535")
	}
}

// TestThereAndBack sends segments in packets.
func TestThereAndBack(t *testing.T) {
	for seed := range uint32(2000) {
		p, s := noiseCarrier(seed), noiseSegment(seed)
		checkBoth(t, p, s)
		put, _ := tcp.Put(p, s)
		b, e := ip4.Put(put)
		if e == api.ELIMIT && len(p.Opts)+len(s.Opts)+len(s.Body) > 1460 {
			continue
		}
		got, gotE := ip4.Get(b)
		if e != api.OK || gotE != api.OK {
			t.Fatalf("P8.1: the packet of Put(%v, %v): %d, %d", p, s, e, gotE)
		}
		checkGet(t, got, s, api.OK)
	}
}

// TestNoise has bytes that are hardly ever a segment, and such with a sum that
// fits.
func TestNoise(t *testing.T) {
	for seed := range uint32(5000) {
		p := carrying(noiseCarrier(seed), noise(int(seed%100), seed))
		checkPlain(t, p)
		if len(p.Body) < 18 {
			continue
		}
		checkPlain(t, carrying(p, summed(p, p.Body, 0)))
		checkPlain(t, carrying(p, summed(p, p.Body, int(seed))))
	}
}

// TestArgumentsRemain has packets and segments that are accepted and refused,
// and looks behind the ends of their lists too.
func TestArgumentsRemain(t *testing.T) {
	for _, p := range []ip4.Packet{
		full, carrier, noiseCarrier(7), plainPut(full, example), plainPut(carrier, tcp.Segment{}),
		plainPut(carrier, tcp.Segment{Body: []byte("even")}), with(plainPut(full, example), func(p *ip4.Packet) { p.Body[24]++ }),
		carrying(carrier, append(bytes.Clone(exampleBytes), 1, 2, 3)), carrying(full, exampleBytes[:23]), carrying(full, exampleBytes[:7]),
	} {
		for _, s := range []tcp.Segment{example, {}, {From: -1, Body: noise(9, 1)}, noiseSegment(5), {Opts: noise(4, 1), Body: noise(1461, 2)}} {
			p.Opts, p.Body, s.Opts, s.Body = spare(p.Opts), spare(p.Body), spare(s.Opts), spare(s.Body)
			var lists, before [][]byte
			for _, b := range [][]byte{p.Opts, p.Body, s.Opts, s.Body} {
				b = b[:len(b)+40]
				lists, before = append(lists, b), append(before, bytes.Clone(b))
			}
			tcp.Get(p)
			tcp.Put(p, s)
			for i, b := range lists {
				if !bytes.Equal(b, before[i]) {
					t.Errorf("R4: Get(%v) or Put(%v, %v) changes list %d", p, p, s, i)
				}
			}
		}
	}
}

// ruin writes on all memory of a list.
func ruin(b []byte) {
	b = b[:cap(b)]
	for i := range b {
		b[i] ^= 0x5a
	}
}

// apart are segments whose lists must not share memory.
var apart = []tcp.Segment{
	example, {}, {Body: noise(1460, 1)}, {From: 9, To: 8, Body: noise(3, 2)},
	{Opts: noise(40, 3)}, {Opts: noise(12, 4), Body: noise(700, 5)},
}

// TestResultsOfGetAreNewMemory ruins arguments and looks at results, and ruins
// results and looks at arguments and other results, and at both lists of one.
func TestResultsOfGetAreNewMemory(t *testing.T) {
	for _, s := range apart {
		p := plainPut(full, s)
		p.Body = spare(p.Body)
		got, _ := tcp.Get(p)
		again, _ := tcp.Get(p)
		ruin(again.Opts)
		if !bytes.Equal(again.Body, s.Body) {
			t.Errorf("R4: the Opts and the Body of a result of Get share memory: %v", s)
		}
		ruin(again.Body)
		checkGet(t, p, s, api.OK)
		ruin(p.Body)
		if !sameSegment(got, s) {
			t.Errorf("R4: results of Get share memory: %v instead of %v", got, s)
		}
		ruin(got.Body)
		if !bytes.Equal(got.Opts, s.Opts) {
			t.Errorf("R4: the Body and the Opts of a result of Get share memory: %v", s)
		}
	}
}

// TestResultsOfPutAreNewMemory does the same with Put.
func TestResultsOfPutAreNewMemory(t *testing.T) {
	for _, base := range []ip4.Packet{full, carrier, noiseCarrier(10), plainPut(full, example)} {
		for _, s := range apart {
			want := plainPut(base, s)
			p, own := base, s
			p.Opts, p.Body = spare(base.Opts), spare(base.Body)
			own.Opts, own.Body = spare(s.Opts), spare(s.Body)
			put, _ := tcp.Put(p, own)
			again, _ := tcp.Put(p, own)
			ruin(again.Opts)
			ruin(again.Body)
			checkPut(t, p, own, want, api.OK)
			for _, b := range [][]byte{p.Opts, p.Body, own.Opts, own.Body} {
				ruin(b)
			}
			if !same(put, want) {
				t.Errorf("R4: results of Put share memory: %v instead of %v", put, want)
			}
			ruin(put.Opts)
			if !bytes.Equal(put.Body, want.Body) {
				t.Errorf("R4: the Opts and the Body of a result of Put share memory: %v", want)
			}
		}
	}
}

// TestPutOfAPacketsOwnLists has segments whose lists are memory of the packet.
func TestPutOfAPacketsOwnLists(t *testing.T) {
	p := plainPut(full, example)
	s, _ := tcp.Get(p)
	for _, own := range []tcp.Segment{
		but(s, func(s *tcp.Segment) { s.Body = p.Body }),
		but(s, func(s *tcp.Segment) { s.Body = p.Body[24:] }),
		but(s, func(s *tcp.Segment) { s.Opts = p.Body[20:24] }),
		but(s, func(s *tcp.Segment) { s.Opts, s.Body = p.Body[:8], p.Body[4:] }),
		but(s, func(s *tcp.Segment) { s.Opts, s.Body = p.Opts, p.Opts }),
	} {
		checkPut(t, p, own, plainPut(p, own), api.OK)
	}
}

// TestResultsDependOnArgumentsAlone makes calls that succeed and that fail
// between those whose results it looks at.
func TestResultsDependOnArgumentsAlone(t *testing.T) {
	good := carrying(carrier, exampleBytes)
	for seed := range uint32(5) {
		p, s := noiseCarrier(seed), noiseSegment(seed)
		busy, _ := tcp.Put(p, s)
		tcp.Put(p, tcp.Segment{From: -1, Body: noise(9, seed)})
		tcp.Put(p, tcp.Segment{Body: noise(1461, seed)})
		checkPut(t, carrier, example, good, api.OK)
		tcp.Get(busy)
		tcp.Get(p)
		tcp.Get(with(good, func(p *ip4.Packet) { p.Body[24]++ }))
		tcp.Get(with(good, func(p *ip4.Packet) { p.Part = 1 }))
		checkGet(t, good, example, api.OK)
	}
}
