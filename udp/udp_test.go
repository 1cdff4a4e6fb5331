package udp_test

import (
	"bytes"
	"math"
	"testing"

	"gatehouse/api"
	"gatehouse/ip4"
	"gatehouse/udp"
)

// example is the chapter's datagram, and carrier a packet that it is put into.
// Their checksum, 0x802f, was computed by hand.
var (
	carrier      = ip4.Packet{Ttl: 64, Proto: 17, From: api.Addr{10, 0, 0, 1}, To: api.Addr{8, 8, 4, 4}}
	example      = udp.Datagram{From: 53, To: 256, Body: []byte("hi")}
	exampleBytes = []byte{0, 53, 1, 0, 0, 10, 0x80, 0x2f, 'h', 'i'}
)

// full is a packet with a value in each field.
var full = ip4.Packet{
	Tos: 0x12, ID: 0x3456, Flags: 2, Ttl: 200, Proto: 17,
	From: api.Addr{192, 168, 1, 20},
	To:   api.Addr{255, 255, 255, 255},
	Opts: []byte{1, 7, 3, 0},
	Body: []byte("something"),
}

// wrongPorts are numbers that two bytes do not hold.
var wrongPorts = []int{-1, -2, -53, -65535, -65536, 65536, 65537, 65589, 131071, 1 << 20, 1 << 32, 1<<32 + 53, math.MaxInt, math.MaxInt - 1, math.MinInt, math.MinInt + 53}

// wrongProtos are numbers of other protocols and numbers that one byte does not
// hold.
var wrongProtos = []int{-1, -17, -239, -240, 0, api.ICMP, api.TCP, 16, 18, 255, 256, 256 + 17, 512 + 17, 1<<16 + 17, 1<<32 + 17, math.MaxInt, math.MinInt, math.MinInt + 17}

// noise returns n bytes that look irregular and depend on seed alone.
func noise(n int, seed uint32) []byte {
	b := make([]byte, n)
	for i := range b {
		seed = seed*1664525 + 1013904223
		b[i] = byte(seed >> 24)
	}
	return b
}

// noiseCarrier returns a packet with such bytes and numbers in it that is not a
// fragment.
func noiseCarrier(seed uint32) ip4.Packet {
	b := noise(16, seed)
	return ip4.Packet{
		Tos: int(b[0]), ID: 256*int(b[1]) + int(b[2]), Flags: 2 * int(b[3]%4), Ttl: int(b[4]), Proto: 17,
		From: api.Addr(b[8:12]), To: api.Addr(b[12:16]),
		Opts: noise(4*int(seed%11), seed+1),
		Body: noise(int(seed%5), seed+2),
	}
}

// noiseDatagram returns a datagram of any length that Put accepts.
func noiseDatagram(seed uint32) udp.Datagram {
	b := noise(4, seed+3)
	return udp.Datagram{
		From: 256*int(b[0]) + int(b[1]),
		To:   256*int(b[2]) + int(b[3]),
		Body: noise(int(seed*7%1473), seed+4),
	}
}

// spare returns b in memory that goes on for 40 bytes behind its end.
func spare(b []byte) []byte {
	long := append(bytes.Clone(b), bytes.Repeat([]byte{0xee}, 40)...)
	return long[:len(b)]
}

// same reports whether two packets agree in all their fields: a nil list and an
// empty one are equivalent.
func same(p, q ip4.Packet) bool {
	return p.Tos == q.Tos && p.ID == q.ID && p.Flags == q.Flags && p.Part == q.Part &&
		p.Ttl == q.Ttl && p.Proto == q.Proto && p.From == q.From && p.To == q.To &&
		bytes.Equal(p.Opts, q.Opts) && bytes.Equal(p.Body, q.Body)
}

func sameDatagram(d, g udp.Datagram) bool {
	return d.From == g.From && d.To == g.To && bytes.Equal(d.Body, g.Body)
}

// with returns p, with lists of its own, after it has been changed.
func with(p ip4.Packet, change func(p *ip4.Packet)) ip4.Packet {
	p.Opts, p.Body = bytes.Clone(p.Opts), bytes.Clone(p.Body)
	change(&p)
	return p
}

// carrying returns p with a copy of a body.
func carrying(p ip4.Packet, body []byte) ip4.Packet {
	return with(p, func(p *ip4.Packet) { p.Body = bytes.Clone(body) })
}

// plainSum is the checksum of a datagram between two addresses from 0 to 65534,
// computed by remainders, where the bytes of the checksum itself do not count.
func plainSum(from, to api.Addr, b []byte) int {
	sum := 17 + len(b)
	for i := 0; i < 4; i += 2 {
		sum += 256*int(from[i]) + int(from[i+1]) + 256*int(to[i]) + int(to[i+1])
	}
	for i, c := range b {
		switch {
		case i == 6 || i == 7:
		case i%2 == 0:
			sum += 256 * int(c)
		default:
			sum += int(c)
		}
	}
	return (65535 - sum%65535) % 65535
}

// summed returns b with the checksum of the datagram with which it begins, whose
// length is n; or with a wrong one, that is off by some number.
func summed(p ip4.Packet, b []byte, n, off int) []byte {
	b = bytes.Clone(b)
	sum := (plainSum(p.From, p.To, b[:n]) + off) % 65535
	if sum == 0 {
		sum = 65535
	}
	b[6], b[7] = byte(sum/256), byte(sum%256)
	return b
}

// plainGet is the word of the chapter, byte by byte.
func plainGet(p ip4.Packet) (udp.Datagram, api.Errno) {
	b := p.Body
	if p.Proto != 17 {
		return udp.Datagram{}, api.EARG
	}
	if p.Part != 0 || p.Flags%2 != 0 {
		return udp.Datagram{}, api.EFRAG
	}
	if len(b) < 8 {
		return udp.Datagram{}, api.ESHORT
	}
	n, sum := 256*int(b[4])+int(b[5]), 256*int(b[6])+int(b[7])
	switch {
	case len(b) < n:
		return udp.Datagram{}, api.ESHORT
	case n < 8:
		return udp.Datagram{}, api.EFORM
	case sum != 0 && sum%65535 != plainSum(p.From, p.To, b[:n]):
		return udp.Datagram{}, api.ESUM
	}
	return udp.Datagram{From: 256*int(b[0]) + int(b[1]), To: 256*int(b[2]) + int(b[3]), Body: b[8:n]}, api.OK
}

// plainBytes is the word of the chapter for the body of a packet with a datagram
// that Put accepts.
func plainBytes(p ip4.Packet, d udp.Datagram) []byte {
	n := 8 + len(d.Body)
	b := []byte{
		byte(d.From / 256), byte(d.From % 256), byte(d.To / 256), byte(d.To % 256),
		byte(n / 256), byte(n % 256), 0, 0,
	}
	return summed(p, append(b, d.Body...), n, 0)
}

// plainPut is the packet with that body.
func plainPut(p ip4.Packet, d udp.Datagram) ip4.Packet {
	return with(p, func(p *ip4.Packet) { p.Proto, p.Body = 17, plainBytes(*p, d) })
}

func checkGet(t *testing.T, p ip4.Packet, want udp.Datagram, wantE api.Errno) {
	t.Helper()
	d, e := udp.Get(p)
	if e != wantE {
		t.Errorf("P7.1: Get(%v): %d instead of %d", p, e, wantE)
	}
	if !sameDatagram(d, want) {
		t.Errorf("P7.1, R2: Get(%v) with the error %d: %v instead of %v", p, e, d, want)
	}
}

// checkRefused has a packet that contains no datagram.
func checkRefused(t *testing.T, p ip4.Packet, want api.Errno) {
	t.Helper()
	checkGet(t, p, udp.Datagram{}, want)
}

// checkPlain has a packet with which Get does what plainGet does.
func checkPlain(t *testing.T, p ip4.Packet) {
	t.Helper()
	want, wantE := plainGet(p)
	checkGet(t, p, want, wantE)
}

func checkPut(t *testing.T, p ip4.Packet, d udp.Datagram, want ip4.Packet, wantE api.Errno) {
	t.Helper()
	q, e := udp.Put(p, d)
	if e != wantE {
		t.Errorf("P7.1: Put(%v, %v): %d instead of %d", p, d, e, wantE)
	}
	if !same(q, want) {
		t.Errorf("P7.1, R2: Put(%v, %v) with the error %d: %v instead of %v", p, d, e, q, want)
	}
}

func checkNotPut(t *testing.T, p ip4.Packet, d udp.Datagram, want api.Errno) {
	t.Helper()
	checkPut(t, p, d, ip4.Packet{}, want)
}

// checkBoth has a datagram that Put accepts, and Get takes from there again.
func checkBoth(t *testing.T, p ip4.Packet, d udp.Datagram) {
	t.Helper()
	want := plainPut(p, d)
	checkPut(t, p, d, want, api.OK)
	checkGet(t, want, d, api.OK)
}

func TestGet(t *testing.T) {
	checkGet(t, carrying(carrier, exampleBytes), example, api.OK)
	checkGet(t, plainPut(full, example), example, api.OK)
	// The shortest datagram, of a sender that computes no checksum.
	checkGet(t, carrying(carrier, []byte{1, 2, 3, 4, 0, 8, 0, 0}), udp.Datagram{From: 258, To: 772}, api.OK)
	checkGet(t, carrying(ip4.Packet{Proto: 17}, []byte{0, 0, 0, 0, 0, 8, 0, 0}), udp.Datagram{}, api.OK)
	// Its checksum comes from 17, 8 and 8.
	checkGet(t, carrying(ip4.Packet{Proto: 17}, []byte{0, 0, 0, 0, 0, 8, 255, 222}), udp.Datagram{}, api.OK)
	most := carrying(carrier, append([]byte{255, 255, 255, 255, 0, 12, 0, 0}, 255, 255, 255, 255))
	checkGet(t, most, udp.Datagram{From: 65535, To: 65535, Body: []byte{255, 255, 255, 255}}, api.OK)
}

// TestGetOfTheChaptersExample changes each byte of the data to each other one,
// and sets the checksum to 0 then.
func TestGetOfTheChaptersExample(t *testing.T) {
	for _, body := range []string{"hi", "x", "hello", "\x00", "\x00\x00", "\xff\xff\x00"} {
		good := plainPut(carrier, udp.Datagram{From: 5, To: 6, Body: []byte(body)})
		for at := range body {
			for v := range 256 {
				if byte(v) == body[at] {
					continue
				}
				p := with(good, func(p *ip4.Packet) { p.Body[8+at] = byte(v) })
				checkRefused(t, p, api.ESUM)
				p.Body[6], p.Body[7] = 0, 0
				checkGet(t, p, udp.Datagram{From: 5, To: 6, Body: p.Body[8:]}, api.OK)
			}
		}
	}
}

// TestGetOfEachByte puts all values at each place of datagrams, with the sum
// that was right before, with the one that is now, and with none.
func TestGetOfEachByte(t *testing.T) {
	for _, base := range []ip4.Packet{
		plainPut(carrier, example),
		plainPut(full, udp.Datagram{From: 67, To: 68, Body: noise(300, 1)}),
		plainPut(noiseCarrier(3), udp.Datagram{From: 1, To: 65535, Body: []byte{255}}),
	} {
		for at := range min(len(base.Body), 40) {
			for v := range 256 {
				p := with(base, func(p *ip4.Packet) { p.Body[at] = byte(v) })
				checkPlain(t, p)
				n := 256*int(p.Body[4]) + int(p.Body[5])
				if n < 8 || n > len(p.Body) {
					continue // Such a datagram has no checksum.
				}
				checkPlain(t, carrying(p, summed(p, p.Body, n, 0)))
				checkPlain(t, carrying(p, summed(p, p.Body, n, 1)))
				p.Body[6], p.Body[7] = 0, 0
				checkPlain(t, p)
			}
		}
	}
}

// TestGetOfEachSize has all bytes that some datagrams begin with.
func TestGetOfEachSize(t *testing.T) {
	for _, base := range []ip4.Packet{carrying(carrier, exampleBytes), plainPut(full, noiseDatagram(9)), plainPut(carrier, udp.Datagram{}), plainPut(carrier, udp.Datagram{Body: noise(1472, 2)})} {
		for n := range base.Body {
			checkRefused(t, carrying(base, base.Body[:n]), api.ESHORT)
			// The rest is not taken from behind the end.
			p := base
			p.Body = base.Body[:n]
			checkRefused(t, p, api.ESHORT)
		}
		checkPlain(t, base)
	}
	for n := range 8 {
		for _, c := range []byte{0, 7, 8, 255} {
			checkRefused(t, carrying(carrier, bytes.Repeat([]byte{c}, n)), api.ESHORT)
		}
	}
	checkRefused(t, with(carrier, func(p *ip4.Packet) { p.Body = nil }), api.ESHORT)
	checkRefused(t, with(carrier, func(p *ip4.Packet) { p.Body = make([]byte, 0, 100) }), api.ESHORT)
}

// TestGetOfEachLength has all lengths with few bytes and with enough ones, with
// the right checksum, a wrong one, and none.
func TestGetOfEachLength(t *testing.T) {
	long := noise(65535, 5)
	for n := range 65536 {
		long[4], long[5] = byte(n/256), byte(n%256)
		for _, size := range []int{8, 9, 100, 101} {
			p := carrier
			p.Body = bytes.Clone(long[:size])
			switch {
			case n > size:
				checkRefused(t, p, api.ESHORT)
			case n < 8:
				checkRefused(t, p, api.EFORM)
			default:
				want := udp.Datagram{From: 256*int(long[0]) + int(long[1]), To: 256*int(long[2]) + int(long[3]), Body: long[8:n]}
				p.Body = summed(p, long[:size], n, 0)
				checkGet(t, p, want, api.OK)
				p.Body = summed(p, long[:size], n, 1)
				checkRefused(t, p, api.ESUM)
				p.Body[6], p.Body[7] = 0, 0
				checkGet(t, p, want, api.OK)
			}
		}
	}
	// Lengths around those that Put accepts, and the greatest ones: Get accepts
	// whatever is there.
	for _, n := range []int{8, 9, 255, 256, 257, 1479, 1480, 1481, 1500, 32767, 32768, 65533, 65534, 65535} {
		long[4], long[5] = byte(n/256), byte(n%256)
		p := carrying(full, summed(full, long, n, 0))
		checkPlain(t, p)
		if _, e := udp.Get(p); e != api.OK {
			t.Errorf("P7.1: Get of the length %d: %d", n, e)
		}
		p.Body = p.Body[:n]
		checkPlain(t, p)
		p.Body = p.Body[:n-1]
		checkRefused(t, p, api.ESHORT)
		checkRefused(t, carrying(full, summed(full, long, n, 3)), api.ESUM)
	}
}

// TestGetIgnoresWhatFollows has bytes behind the length: neither the Body nor
// the checksum contains them, even where the last pair lacks its second byte.
func TestGetIgnoresWhatFollows(t *testing.T) {
	for size := range 20 {
		d := udp.Datagram{From: 1024, To: 80, Body: noise(size, 8)}
		good := plainPut(full, d)
		for _, behind := range [][]byte{{0}, {255}, {1, 2}, make([]byte, 18), noise(41, 3), exampleBytes, make([]byte, 1<<17)} {
			checkGet(t, carrying(full, append(bytes.Clone(good.Body), behind...)), d, api.OK)
		}
	}
	// A sum that counts what follows is wrong.
	for _, behind := range [][]byte{{7}, {0, 9}, noise(8, 4)} {
		b := append(bytes.Clone(exampleBytes), behind...)
		sum := plainSum(carrier.From, carrier.To, b)
		b[6], b[7] = byte(sum/256), byte(sum%256)
		checkRefused(t, carrying(carrier, b), api.ESUM)
	}
}

// TestGetOfEachSum has all checksums with some datagrams, among them some whose
// checksum comes to 0: there 65535 fits, and 0 is none.
func TestGetOfEachSum(t *testing.T) {
	zero := []byte{0, 53, 1, 0, 0, 10, 0, 0, 'h' + 0x80, 'i' + 0x2f}
	for _, body := range [][]byte{exampleBytes, zero, {0, 0, 0, 0, 0, 8, 0, 0}, {0, 1, 0, 2, 0, 11, 0, 0, 255, 255, 255}} {
		p := carrying(carrier, body)
		right, accepted := plainSum(p.From, p.To, body), 0
		for sum := range 65536 {
			p.Body[6], p.Body[7] = byte(sum/256), byte(sum%256)
			checkPlain(t, p)
			if _, e := udp.Get(p); e == api.OK {
				accepted++
			}
		}
		if accepted != 2 {
			t.Errorf("P7.1: Get accepts %d checksums of %x, of which %d is right", accepted, body, right)
		}
	}
	if plainSum(carrier.From, carrier.To, zero) != 0 {
		t.Fatalf("the test has no datagram whose checksum comes to 0")
	}
	zero[6], zero[7] = 255, 255
	checkGet(t, carrying(carrier, zero), udp.Datagram{From: 53, To: 256, Body: zero[8:]}, api.OK)
}

// TestGetOfEachAddr changes each byte of the addresses, which the checksum
// counts too.
func TestGetOfEachAddr(t *testing.T) {
	good := plainPut(carrier, example)
	none := with(good, func(p *ip4.Packet) { p.Body[6], p.Body[7] = 0, 0 })
	for at := range 4 {
		for v := range 256 {
			for _, change := range []func(p *ip4.Packet){
				func(p *ip4.Packet) { p.From[at] = byte(v) },
				func(p *ip4.Packet) { p.To[at] = byte(v) },
			} {
				p := with(good, change)
				if p.From == carrier.From && p.To == carrier.To {
					checkGet(t, p, example, api.OK)
				} else {
					checkRefused(t, p, api.ESUM)
				}
				checkGet(t, carrying(p, plainBytes(p, example)), example, api.OK)
				checkGet(t, with(none, change), example, api.OK)
			}
		}
	}
}

func TestGetOfEachProto(t *testing.T) {
	good := plainPut(carrier, example)
	for proto := -300; proto < 1000; proto++ {
		if proto != 17 {
			checkRefused(t, with(good, func(p *ip4.Packet) { p.Proto = proto }), api.EARG)
		}
	}
	for _, proto := range wrongProtos {
		checkRefused(t, with(good, func(p *ip4.Packet) { p.Proto = proto }), api.EARG)
	}
	checkGet(t, good, example, api.OK)
}

func TestGetOfFragments(t *testing.T) {
	good := plainPut(carrier, example)
	for flags := range 8 {
		for part := range 8192 {
			p := with(good, func(p *ip4.Packet) { p.Flags, p.Part = flags, part })
			if flags%2 == 0 && part == 0 {
				checkGet(t, p, example, api.OK)
			} else {
				checkRefused(t, p, api.EFRAG)
			}
		}
	}
	// Numbers that no field holds, as R6 allows: Get asks ip4.Whole.
	for _, v := range []int{-1, -2, -3, 8, 9, 8192, 65536, 1 << 32, 1<<32 + 1, math.MaxInt, math.MinInt, math.MinInt + 1} {
		for _, p := range []ip4.Packet{
			with(good, func(p *ip4.Packet) { p.Flags = v }),
			with(good, func(p *ip4.Packet) { p.Part = v }),
		} {
			if ip4.Whole(p) {
				checkGet(t, p, example, api.OK)
			} else {
				checkRefused(t, p, api.EFRAG)
			}
		}
	}
}

// TestOrderOfGet has each of the faults together with any of the others that
// come later.
func TestOrderOfGet(t *testing.T) {
	faults := []struct {
		e    api.Errno
		make func(p *ip4.Packet)
	}{
		{api.EARG, func(p *ip4.Packet) { p.Proto = 6 }},
		{api.EFRAG, func(p *ip4.Packet) { p.Part = 5 }},
		{api.EFRAG, func(p *ip4.Packet) { p.Flags = 3 }},
		{api.ESHORT, func(p *ip4.Packet) { p.Body = p.Body[:7] }},
		{api.ESHORT, func(p *ip4.Packet) { p.Body[4] = 1 }},
		{api.EFORM, func(p *ip4.Packet) { p.Body[5] = 7 }},
		{api.ESUM, func(p *ip4.Packet) { p.Body[6] ^= 1 }},
	}
	good := plainPut(carrier, example)
	for set := range 1 << len(faults) {
		p, want := carrying(good, good.Body), api.OK
		for i := len(faults) - 1; i >= 0; i-- {
			if set>>i&1 == 1 {
				faults[i].make(&p)
				want = faults[i].e
			}
		}
		if want == api.OK {
			checkGet(t, p, example, api.OK)
			continue
		}
		checkRefused(t, p, want)
	}
	// A length below 8 in fewer bytes than 8, and in fewer than itself.
	checkRefused(t, carrying(carrier, []byte{0, 0, 0, 0, 0, 5, 0}), api.ESHORT)
	checkRefused(t, carrying(carrier, []byte{0, 0, 0, 0, 0, 7}), api.ESHORT)
	// No checksum saves a datagram from the other errors.
	checkRefused(t, carrying(carrier, []byte{0, 0, 0, 0, 0, 7, 0, 0}), api.EFORM)
	checkRefused(t, carrying(carrier, []byte{0, 0, 0, 0, 0, 0, 0, 0}), api.EFORM)
	checkRefused(t, carrying(carrier, []byte{0, 0, 0, 0, 0, 9, 0, 0}), api.ESHORT)
}

// TestGetLooksAtNoOtherField has other values in them, wrong ones too.
func TestGetLooksAtNoOtherField(t *testing.T) {
	good := plainPut(carrier, example)
	for _, v := range []int{-1, 0, 1, 255, 256, 65535, 65536, math.MaxInt, math.MinInt} {
		for _, change := range []func(p *ip4.Packet){
			func(p *ip4.Packet) { p.Tos = v },
			func(p *ip4.Packet) { p.ID = v },
			func(p *ip4.Packet) { p.Ttl = v },
			func(p *ip4.Packet) { p.Opts = noise(max(0, min(v, 2000)), 1) },
		} {
			checkGet(t, with(good, change), example, api.OK)
		}
	}
}

func TestPut(t *testing.T) {
	checkPut(t, carrier, example, carrying(carrier, exampleBytes), api.OK)
	checkBoth(t, carrier, example)
	checkBoth(t, full, example)
	checkBoth(t, carrier, udp.Datagram{})
	checkBoth(t, ip4.Packet{}, udp.Datagram{})
	checkBoth(t, full, udp.Datagram{From: 65535, To: 65535, Body: []byte{255, 255}})
	checkBoth(t, full, udp.Datagram{From: 68, To: 67, Body: []byte{}})
	checkPut(t, ip4.Packet{}, udp.Datagram{}, ip4.Packet{Proto: 17, Body: []byte{0, 0, 0, 0, 0, 8, 255, 222}}, api.OK)
}

func TestPutOfEachPort(t *testing.T) {
	for port := range 65536 {
		checkBoth(t, carrier, udp.Datagram{From: port, To: 99, Body: []byte("from")})
		checkBoth(t, carrier, udp.Datagram{From: 1234, To: port, Body: []byte("one")})
	}
}

func TestPutOfWrongPorts(t *testing.T) {
	for _, v := range wrongPorts {
		for _, d := range []udp.Datagram{{From: v}, {To: v}, {From: v, To: v}, {From: v, To: 53, Body: []byte("x")}, {From: 53, To: v, Body: []byte("x")}} {
			checkNotPut(t, carrier, d, api.EARG)
			checkNotPut(t, full, d, api.EARG)
		}
	}
	for port := 1; port < 3000; port++ {
		checkNotPut(t, carrier, udp.Datagram{From: -port}, api.EARG)
		checkNotPut(t, carrier, udp.Datagram{To: -port}, api.EARG)
		checkNotPut(t, carrier, udp.Datagram{From: 65535 + port}, api.EARG)
		checkNotPut(t, carrier, udp.Datagram{To: 65535 + port}, api.EARG)
	}
}

func TestPutOfEachLength(t *testing.T) {
	for n := range 1600 {
		d := udp.Datagram{From: n, To: 2 * n, Body: noise(n, uint32(n))}
		if n > 1472 {
			checkNotPut(t, carrier, d, api.ELIMIT)
			checkNotPut(t, full, d, api.ELIMIT)
			continue
		}
		checkBoth(t, carrier, d)
		checkBoth(t, full, d)
	}
	for _, n := range []int{1473, 1480, 1500, 1514, 32768, 65527, 65528, 65535, 65536, 65536 + 100, 1 << 24} {
		checkNotPut(t, carrier, udp.Datagram{Body: make([]byte, n)}, api.ELIMIT)
	}
}

// TestOrderOfPut has datagrams that are too long and have wrong ports.
func TestOrderOfPut(t *testing.T) {
	long := make([]byte, 1473)
	checkNotPut(t, carrier, udp.Datagram{Body: long}, api.ELIMIT)
	for _, v := range wrongPorts {
		checkNotPut(t, carrier, udp.Datagram{From: v, Body: long}, api.EARG)
		checkNotPut(t, carrier, udp.Datagram{To: v, Body: long}, api.EARG)
	}
}

// TestPutKeepsTheOtherFields has packets that no longer fit into an IPv4 packet
// as well: that is told by ip4.Put.
func TestPutKeepsTheOtherFields(t *testing.T) {
	for _, v := range []int{-1, 0, 1, 7, 8, 255, 256, 8191, 65535, 65536, math.MaxInt, math.MinInt} {
		for _, change := range []func(p *ip4.Packet){
			func(p *ip4.Packet) { p.Tos = v },
			func(p *ip4.Packet) { p.ID = v },
			func(p *ip4.Packet) { p.Flags = v },
			func(p *ip4.Packet) { p.Part = v },
			func(p *ip4.Packet) { p.Ttl = v },
			func(p *ip4.Packet) { p.Opts = noise(max(0, min(v, 2000)), 1) },
		} {
			p := with(full, change)
			checkPut(t, p, example, plainPut(p, example), api.OK)
		}
	}
	most := udp.Datagram{Body: noise(1472, 1)}
	checkBoth(t, full, most)
	p, _ := udp.Put(full, most)
	if _, e := ip4.Put(p); e != api.ELIMIT {
		t.Errorf("P7.1: Put does not keep Opts: %d", e)
	}
}

// TestPutOfEachProto has packets of other protocols, which the checksum must not
// count.
func TestPutOfEachProto(t *testing.T) {
	for proto := range 256 {
		checkBoth(t, with(full, func(p *ip4.Packet) { p.Proto = proto }), example)
	}
	for _, proto := range wrongProtos {
		checkBoth(t, with(full, func(p *ip4.Packet) { p.Proto = proto }), example)
	}
}

// TestPutIgnoresTheFormerBody has bodies that are datagrams, and others.
func TestPutIgnoresTheFormerBody(t *testing.T) {
	for _, body := range [][]byte{nil, {}, {1}, exampleBytes, noise(1472, 1), noise(5000, 2)} {
		checkBoth(t, carrying(full, body), example)
		checkBoth(t, carrying(carrier, body), udp.Datagram{})
	}
}

// TestPutOfEachAddr has the addresses in the checksum, byte by byte.
func TestPutOfEachAddr(t *testing.T) {
	for at := range 4 {
		for v := range 256 {
			checkBoth(t, with(full, func(p *ip4.Packet) { p.From[at] = byte(v) }), example)
			checkBoth(t, with(full, func(p *ip4.Packet) { p.To[at] = byte(v) }), example)
		}
	}
}

// TestSums has datagrams of all checksums; one that comes to 0 is written 65535.
func TestSums(t *testing.T) {
	sums := make([]int, 65536)
	for v := range 65536 {
		d := udp.Datagram{From: 1, To: 2, Body: []byte{byte(v / 256), byte(v % 256)}}
		checkBoth(t, full, d)
		p, _ := udp.Put(full, d)
		sums[256*int(p.Body[6])+int(p.Body[7])]++
		if plainSum(p.From, p.To, p.Body) == 0 && (p.Body[6] != 255 || p.Body[7] != 255) {
			t.Errorf("P7.1: Put writes the checksum 0 as %x", p.Body[6:8])
		}
	}
	if sums[0] != 0 || sums[65535] == 0 {
		t.Errorf("P7.1: Put writes the checksum 0 %d times and 65535 %d times", sums[0], sums[65535])
	}
	for sum, n := range sums[1:] {
		if n == 0 {
			t.Errorf("the test has no datagram of the checksum %d", sum+1)
		}
	}
}

// TestThereAndBack sends datagrams in packets.
func TestThereAndBack(t *testing.T) {
	for seed := range uint32(2000) {
		p, d := noiseCarrier(seed), noiseDatagram(seed)
		checkBoth(t, p, d)
		put, _ := udp.Put(p, d)
		b, e := ip4.Put(put)
		if e == api.ELIMIT && len(p.Opts)+len(d.Body) > 1472 {
			continue
		}
		got, gotE := ip4.Get(b)
		if e != api.OK || gotE != api.OK {
			t.Fatalf("P7.1: the packet of Put(%v, %v): %d, %d", p, d, e, gotE)
		}
		checkGet(t, got, d, api.OK)
	}
}

// TestNoise has bytes that are hardly ever a datagram, and such with a length
// that fits.
func TestNoise(t *testing.T) {
	for seed := range uint32(5000) {
		p := carrying(noiseCarrier(seed), noise(int(seed%100), seed))
		checkPlain(t, p)
		if len(p.Body) < 8 {
			continue
		}
		p.Body[4], p.Body[5] = 0, p.Body[5]%110
		checkPlain(t, p)
		if n := int(p.Body[5]); n >= 8 && n <= len(p.Body) {
			checkPlain(t, carrying(p, summed(p, p.Body, n, 0)))
			checkPlain(t, carrying(p, summed(p, p.Body, n, int(seed))))
		}
	}
}

// TestArgumentsRemain has packets and datagrams that are accepted and refused,
// and looks behind the ends of their lists too.
func TestArgumentsRemain(t *testing.T) {
	for _, p := range []ip4.Packet{
		full, carrier, noiseCarrier(7), plainPut(full, example), plainPut(carrier, udp.Datagram{}),
		plainPut(carrier, udp.Datagram{Body: []byte("odd")}), with(plainPut(full, example), func(p *ip4.Packet) { p.Body[9]++ }),
		carrying(carrier, append(bytes.Clone(exampleBytes), 1, 2, 3)), carrying(full, exampleBytes[:7]),
	} {
		for _, d := range []udp.Datagram{example, {}, {From: -1, Body: noise(9, 1)}, noiseDatagram(5), {Body: noise(1473, 2)}} {
			p.Opts, p.Body, d.Body = spare(p.Opts), spare(p.Body), spare(d.Body)
			opts, body, data := bytes.Clone(p.Opts[:len(p.Opts)+40]), bytes.Clone(p.Body[:len(p.Body)+40]), bytes.Clone(d.Body[:len(d.Body)+40])
			udp.Get(p)
			udp.Put(p, d)
			if !bytes.Equal(p.Opts[:len(opts)], opts) || !bytes.Equal(p.Body[:len(body)], body) || !bytes.Equal(d.Body[:len(data)], data) {
				t.Errorf("R4: Get(%v) or Put(%v, %v) changes its argument", p, p, d)
			}
		}
	}
}

// ruin writes on all memory of a list.
func ruin(b []byte) {
	b = b[:cap(b)]
	for i := range b {
		b[i] ^= 0x5a
	}
}

// TestResultsOfGetAreNewMemory ruins arguments and looks at results, and ruins
// results and looks at arguments and other results.
func TestResultsOfGetAreNewMemory(t *testing.T) {
	for _, d := range []udp.Datagram{example, {}, {Body: noise(1472, 1)}, {From: 9, To: 8, Body: noise(3, 2)}} {
		for _, behind := range [][]byte{nil, noise(50, 3)} {
			p := plainPut(full, d)
			p.Body = spare(append(p.Body, behind...))
			got, _ := udp.Get(p)
			again, _ := udp.Get(p)
			ruin(again.Body)
			checkGet(t, p, d, api.OK)
			ruin(p.Body)
			if !sameDatagram(got, d) {
				t.Errorf("R4: results of Get share memory: %v instead of %v", got, d)
			}
		}
	}
}

// TestResultsOfPutAreNewMemory does the same with Put, and with both lists of
// one result.
func TestResultsOfPutAreNewMemory(t *testing.T) {
	for _, base := range []ip4.Packet{full, carrier, noiseCarrier(10), plainPut(full, example)} {
		for _, d := range []udp.Datagram{example, {}, {Body: noise(1472, 1)}, {From: 9, To: 8, Body: noise(3, 2)}} {
			want := plainPut(base, d)
			p := base
			p.Opts, p.Body = spare(base.Opts), spare(base.Body)
			data := udp.Datagram{From: d.From, To: d.To, Body: spare(d.Body)}
			put, _ := udp.Put(p, data)
			again, _ := udp.Put(p, data)
			ruin(again.Opts)
			ruin(again.Body)
			checkPut(t, p, data, want, api.OK)
			ruin(p.Opts)
			ruin(p.Body)
			ruin(data.Body)
			if !same(put, want) {
				t.Errorf("R4: results of Put share memory: %v instead of %v", put, want)
			}
			ruin(put.Opts)
			if !bytes.Equal(put.Body, want.Body) {
				t.Errorf("R4: the Opts and the Body of a result of Put share memory: %v", want)
			}
		}
	}
}

// TestPutOfAPacketsOwnBody has a datagram whose Body is memory of the packet.
func TestPutOfAPacketsOwnBody(t *testing.T) {
	p := plainPut(full, example)
	d, _ := udp.Get(p)
	want := plainPut(p, udp.Datagram{From: d.From, To: d.To, Body: p.Body})
	checkPut(t, p, udp.Datagram{From: d.From, To: d.To, Body: p.Body}, want, api.OK)
	checkPut(t, p, udp.Datagram{From: d.From, To: d.To, Body: p.Body[8:]}, p, api.OK)
	checkPut(t, p, udp.Datagram{From: d.From, To: d.To, Body: p.Opts}, plainPut(p, udp.Datagram{From: d.From, To: d.To, Body: p.Opts}), api.OK)
}

// TestResultsDependOnArgumentsAlone makes calls that succeed and that fail
// between those whose results it looks at.
func TestResultsDependOnArgumentsAlone(t *testing.T) {
	good := carrying(carrier, exampleBytes)
	for seed := range uint32(5) {
		p, d := noiseCarrier(seed), noiseDatagram(seed)
		busy, _ := udp.Put(p, d)
		udp.Put(p, udp.Datagram{From: -1, Body: noise(9, seed)})
		udp.Put(p, udp.Datagram{Body: noise(1473, seed)})
		checkPut(t, carrier, example, good, api.OK)
		udp.Get(busy)
		udp.Get(p)
		udp.Get(with(good, func(p *ip4.Packet) { p.Body[9]++ }))
		udp.Get(with(good, func(p *ip4.Packet) { p.Part = 1 }))
		checkGet(t, good, example, api.OK)
	}
}
