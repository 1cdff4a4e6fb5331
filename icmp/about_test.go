package icmp_test

import (
	"bytes"
	"math"
	"testing"

	"gatehouse/api"
	"gatehouse/icmp"
	"gatehouse/ip4"
)

// own is the address that the messages come from.
var own = api.Addr{192, 168, 1, 1}

// asked is a packet that an error message may be sent about.
var asked = ip4.Packet{
	Tos: 0x12, ID: 0x3456, Flags: 2, Ttl: 7, Proto: 17,
	From: api.Addr{192, 168, 1, 20},
	To:   api.Addr{8, 8, 4, 4},
	Opts: []byte{1, 7, 3, 0},
	Body: []byte("something"),
}

// onWire returns the bytes of p, which the test must have made well.
func onWire(t *testing.T, p ip4.Packet) []byte {
	t.Helper()
	b, e := ip4.Put(p)
	if e != api.OK {
		t.Fatalf("the test has a packet that is none: %v, %d", p, e)
	}
	return b
}

// denied is the word of the chapter for EDENY, byte by byte of the packet b.
func denied(b []byte) bool {
	if b[6]%32 != 0 || b[7] != 0 {
		return true
	}
	for _, a := range [][]byte{b[12:16], b[16:20]} {
		if quad(a, 0) == 0 || quad(a, 0) == 1<<32-1 || a[0] > 223 {
			return true
		}
	}
	body := b[4*int(b[0]%16) : pair(b, 2)]
	return b[9] == 1 && (len(body) < 8 || body[0] != 0 && body[0] != 8)
}

// plainAbout is the word of the chapter.
func plainAbout(own api.Addr, b []byte, typ, code int) (ip4.Packet, api.Errno) {
	if _, e := ip4.Get(b); e != api.OK {
		return ip4.Packet{}, e
	}
	if denied(b) {
		return ip4.Packet{}, api.EDENY
	}
	if typ < 0 || typ > 255 || code < 0 || code > 255 {
		return ip4.Packet{}, api.EARG
	}
	end := min(4*int(b[0]%16)+8, pair(b, 2))
	body := plainBytes(icmp.Message{Type: typ, Code: code, Body: b[:end]})
	return ip4.Packet{Ttl: 64, Proto: 1, From: own, To: api.Addr(b[12:16]), Body: body}, api.OK
}

func checkAbout(t *testing.T, own api.Addr, b []byte, typ, code int, want ip4.Packet, wantE api.Errno) {
	t.Helper()
	p, e := icmp.About(own, b, typ, code)
	if e != wantE {
		t.Errorf("P9.2: About(%v, %x, %d, %d): %d instead of %d", own, b, typ, code, e, wantE)
	}
	if !same(p, want) {
		t.Errorf("P9.2, R2: About(%v, %x, %d, %d) with the error %d: %v instead of %v", own, b, typ, code, e, p, want)
	}
}

func checkNotAbout(t *testing.T, b []byte, typ, code int, want api.Errno) {
	t.Helper()
	checkAbout(t, own, b, typ, code, ip4.Packet{}, want)
}

// checkAboutPlain has bytes about which About does what plainAbout does, with
// the error that the test expects.
func checkAboutPlain(t *testing.T, b []byte, typ, code int, wantE api.Errno) {
	t.Helper()
	want, e := plainAbout(own, b, typ, code)
	if e != wantE {
		t.Errorf("the test expects %d of About(%x, %d, %d), but the chapter %d", wantE, b, typ, code, e)
	}
	checkAbout(t, own, b, typ, code, want, wantE)
}

// checkOf has a packet, with bytes behind it and without.
func checkOf(t *testing.T, p ip4.Packet, wantE api.Errno) {
	t.Helper()
	b := onWire(t, p)
	checkAboutPlain(t, b, 3, 1, wantE)
	checkAboutPlain(t, append(b, 8, 0, 0, 0, 0, 0, 0, 0, 0), 11, 0, wantE)
}

// TestAbout has a packet whose message was made by hand.
func TestAbout(t *testing.T) {
	b := []byte{
		0x45, 0, 0, 30, 0, 0, 0, 0, 1, 17, 0xa3, 0xc3, 10, 0, 0, 1, 8, 8, 4, 4,
		0, 53, 1, 0, 0, 10, 0x80, 0x2f, 'h', 'i',
	}
	want := ip4.Packet{Ttl: 64, Proto: 1, From: own, To: api.Addr{10, 0, 0, 1}, Body: append([]byte{11, 0, 0x73, 0x91, 0, 0, 0, 0}, b[:28]...)}
	checkAbout(t, own, b, 11, 0, want, api.OK)
	checkAboutPlain(t, b, 11, 0, api.OK)
	checkOf(t, asked, api.OK)
	checkOf(t, ip4.Packet{From: api.Addr{1}, To: api.Addr{1}}, api.OK)
}

// TestAboutOfTheChaptersExample has a UDP packet to 224.0.0.1.
func TestAboutOfTheChaptersExample(t *testing.T) {
	checkOf(t, with(asked, func(p *ip4.Packet) { p.To = api.Addr{224, 0, 0, 1} }), api.EDENY)
}

// TestAboutQuotes has all lengths of the header, and bodies around 8 bytes with
// and without bytes behind the packet, which are not of it.
func TestAboutQuotes(t *testing.T) {
	for opts := 0; opts <= 40; opts += 4 {
		for size := range 40 {
			p := asked
			p.Opts, p.Body = noise(opts, 1), noise(size, 2)
			b := onWire(t, p)
			for _, behind := range [][]byte{nil, {1}, noise(7, 3), noise(60, 4)} {
				checkAboutPlain(t, append(bytes.Clone(b), behind...), 3, 3, api.OK)
			}
			q, _ := icmp.About(own, append(b, "behind"...), 3, 3)
			m, e := icmp.Get(q)
			if e != api.OK || m.Rest != 0 || len(m.Body) != 20+opts+min(size, 8) || !bytes.HasPrefix(b, m.Body) {
				t.Errorf("P9.2: About a header of %d bytes and a body of %d bytes: %v, %d", 20+opts, size, m, e)
			}
		}
	}
	for _, size := range []int{1000, 1475, 1476} {
		checkOf(t, with(asked, func(p *ip4.Packet) { p.Body = noise(size, 5) }), api.OK)
	}
}

// TestAboutOfGreatPackets has such as ip4.Get accepts and ip4.Put does not.
func TestAboutOfGreatPackets(t *testing.T) {
	for _, size := range []int{1501, 1514, 40000, 65535} {
		b := append(onWire(t, with(asked, func(p *ip4.Packet) { p.Body = nil })), noise(size-24, 6)...)
		b[2], b[3] = byte(size/256), byte(size%256)
		checkAboutPlain(t, headerSummed(b), 3, 4, api.OK)
		checkAboutPlain(t, append(headerSummed(b), 9), 3, 4, api.OK)
	}
}

// headerSummed returns the packet b with the checksum of its header.
func headerSummed(b []byte) []byte {
	b = bytes.Clone(b)
	b[10], b[11] = 0, 0
	sum := (65535 - total(b[:4*int(b[0]%16)])%65535) % 65535
	b[10], b[11] = byte(sum/256), byte(sum%256)
	return b
}

// TestAboutQuotesBytesAsTheyAre has a header whose checksum comes to 0, for
// which 65535 stands as well: it is quoted as it came.
func TestAboutQuotesBytesAsTheyAre(t *testing.T) {
	p := asked
	p.ID = 0
	b := onWire(t, p)
	p.ID = pair(b, 10)
	b = onWire(t, p)
	if b[10] != 0 || b[11] != 0 {
		t.Fatalf("the test has the checksum %x", b[10:12])
	}
	checkAboutPlain(t, b, 3, 0, api.OK)
	b[10], b[11] = 255, 255
	checkAboutPlain(t, b, 3, 0, api.OK)
	if q, _ := icmp.About(own, b, 3, 0); len(q.Body) != 40 || q.Body[18] != 255 || q.Body[19] != 255 {
		t.Errorf("P9.2: About quotes the checksum 65535 otherwise: %v", q)
	}
}

// TestAboutOfEachTypeAndCode has all of them, also those that are of no error.
func TestAboutOfEachTypeAndCode(t *testing.T) {
	b := onWire(t, asked)
	for typ := -10; typ < 300; typ++ {
		for code := -10; code < 300; code++ {
			want := api.OK
			if typ < 0 || typ > 255 || code < 0 || code > 255 {
				want = api.EARG
			}
			checkAboutPlain(t, b, typ, code, want)
		}
	}
	for _, v := range wrongBytes {
		checkNotAbout(t, b, v, 0, api.EARG)
		checkNotAbout(t, b, 3, v, api.EARG)
		checkNotAbout(t, b, v, v, api.EARG)
	}
}

// TestAboutOfEachOwn has any address, as the chapter asks nothing of it.
func TestAboutOfEachOwn(t *testing.T) {
	b := onWire(t, asked)
	for at := range 4 {
		for v := range 256 {
			for _, a := range []api.Addr{own, {}, {255, 255, 255, 255}} {
				a[at] = byte(v)
				want, e := plainAbout(a, b, 3, 1)
				checkAbout(t, a, b, 3, 1, want, e)
			}
		}
	}
}

// TestAboutOfEachAddr has all first bytes, and the addresses around 0.0.0.0 and
// 255.255.255.255, at both ends.
func TestAboutOfEachAddr(t *testing.T) {
	check := func(a api.Addr, want api.Errno) {
		t.Helper()
		checkOf(t, with(asked, func(p *ip4.Packet) { p.From = a }), want)
		checkOf(t, with(asked, func(p *ip4.Packet) { p.To = a }), want)
		checkOf(t, with(asked, func(p *ip4.Packet) { p.From, p.To = a, a }), want)
	}
	for v := range 256 {
		want := api.OK
		if v > 223 {
			want = api.EDENY
		}
		check(api.Addr{byte(v), 0, 0, 1}, want)
		check(api.Addr{byte(v), 255, 255, 255}, want)
		if v > 0 {
			check(api.Addr{byte(v)}, want)
		}
	}
	check(api.Addr{}, api.EDENY)
	check(api.Addr{255, 255, 255, 255}, api.EDENY)
	for at := 1; at < 4; at++ {
		for v := 1; v < 256; v++ {
			var a api.Addr
			a[at] = byte(v)
			check(a, api.OK)
		}
	}
}

// TestAboutOfOwnAddr has packets from and to the address that the message comes
// from: the chapter does not deny them.
func TestAboutOfOwnAddr(t *testing.T) {
	checkOf(t, with(asked, func(p *ip4.Packet) { p.From = own }), api.OK)
	checkOf(t, with(asked, func(p *ip4.Packet) { p.To = own }), api.OK)
	checkOf(t, with(asked, func(p *ip4.Packet) { p.From, p.To = own, own }), api.OK)
}

// TestAboutOfEachFragment has all places of fragments: a message is sent about
// the first one alone.
func TestAboutOfEachFragment(t *testing.T) {
	for flags := range 8 {
		for part := range 8192 {
			want := api.OK
			if part > 0 {
				want = api.EDENY
			}
			b := onWire(t, with(asked, func(p *ip4.Packet) { p.Flags, p.Part = flags, part }))
			checkAboutPlain(t, b, 3, 1, want)
		}
	}
}

// TestAboutOfEachProto has a body that is none of an echo message, which matters
// for ICMP alone.
func TestAboutOfEachProto(t *testing.T) {
	for proto := range 256 {
		for _, body := range [][]byte{nil, {3}, noise(7, 1), {5, 1, 0, 0, 0, 0, 0, 0}, {3, 1, 0, 0, 0, 0, 0, 0, 0}} {
			want := api.OK
			if proto == 1 {
				want = api.EDENY
			}
			checkOf(t, with(asked, func(p *ip4.Packet) { p.Proto, p.Body = proto, body }), want)
		}
	}
}

// TestAboutOfMessages has all types of messages with wrong checksums and any
// codes, whole and as the first fragment, and messages of too few bytes, behind
// which the bytes of an echo message go on.
func TestAboutOfMessages(t *testing.T) {
	for typ := range 256 {
		for size := range 20 {
			for _, flags := range []int{0, 1, 2} {
				want := api.EDENY
				if size >= 8 && (typ == 0 || typ == 8) {
					want = api.OK
				}
				body := append([]byte{byte(typ), byte(size)}, noise(20, 3)...)[:size]
				checkOf(t, with(asked, func(p *ip4.Packet) { p.Proto, p.Flags, p.Body = 1, flags, body }), want)
			}
		}
	}
	p, _ := icmp.Put(asked, example)
	checkOf(t, p, api.OK)
	// A message about the packet would be one about a fault.
	q, _ := icmp.About(own, onWire(t, p), 3, 1)
	checkOf(t, q, api.EDENY)
}

// TestAboutOfEachSize has all bytes that a packet begins with.
func TestAboutOfEachSize(t *testing.T) {
	b := onWire(t, asked)
	for n := range b {
		checkNotAbout(t, b[:n], 3, 1, api.ESHORT)
		// The rest is not taken from behind the end.
		checkNotAbout(t, b[:n:n], 3, 1, api.ESHORT)
	}
	checkAboutPlain(t, b, 3, 1, api.OK)
	checkAboutPlain(t, spare(b), 3, 1, api.OK)
	checkNotAbout(t, nil, 3, 1, api.ESHORT)
}

// TestAboutOfEachByte puts all values at each place of packets, with the sum
// that was right before and with the one that is now.
func TestAboutOfEachByte(t *testing.T) {
	echo, _ := icmp.Put(ip4.Packet{Ttl: 1, From: asked.From, To: asked.To}, example)
	for _, base := range [][]byte{onWire(t, asked), onWire(t, echo), onWire(t, ip4.Packet{From: api.Addr{9}, To: api.Addr{0, 0, 0, 7}})} {
		for at := range base {
			for v := range 256 {
				b := bytes.Clone(base)
				b[at] = byte(v)
				want, e := plainAbout(own, b, 12, 1)
				checkAbout(t, own, b, 12, 1, want, e)
				if 4*int(b[0]%16) > len(b) {
					continue // Such a header has no sum.
				}
				b = headerSummed(b)
				want, e = plainAbout(own, b, 12, 1)
				checkAbout(t, own, b, 12, 1, want, e)
			}
		}
	}
}

// TestOrderOfAbout has packets that are none, and such about which no message is
// sent, together with each other and with wrong numbers.
func TestOrderOfAbout(t *testing.T) {
	reasons := []func(p *ip4.Packet){
		func(p *ip4.Packet) { p.Part = 1 },
		func(p *ip4.Packet) { p.From = api.Addr{} },
		func(p *ip4.Packet) { p.To = api.Addr{} },
		func(p *ip4.Packet) { p.From = api.Addr{255, 255, 255, 255} },
		func(p *ip4.Packet) { p.To = api.Addr{239, 1, 2, 3} },
		func(p *ip4.Packet) { p.Proto, p.Body = 1, noise(7, 1) },
		func(p *ip4.Packet) { p.Proto, p.Body = 1, []byte{3, 0, 0, 0, 0, 0, 0, 0} },
	}
	for _, deny := range reasons {
		b := onWire(t, with(asked, deny))
		wrongForm, wrongSum := bytes.Clone(b), bytes.Clone(b)
		wrongForm[0] = 0x65
		wrongSum[1]++
		for _, c := range [][2]int{{3, 1}, {256, 1}, {-1, 0}, {3, 256}, {3, -1}, {math.MaxInt, math.MinInt}} {
			checkNotAbout(t, b, c[0], c[1], api.EDENY)
			checkNotAbout(t, b[:19], c[0], c[1], api.ESHORT)
			checkNotAbout(t, b[:len(b)-1], c[0], c[1], api.ESHORT)
			checkNotAbout(t, wrongForm, c[0], c[1], api.EFORM)
			checkNotAbout(t, wrongSum, c[0], c[1], api.ESUM)
		}
	}
	b := onWire(t, asked)
	checkNotAbout(t, b[:len(b)-1], 256, 1, api.ESHORT)
	b[1]++
	checkNotAbout(t, b, 256, 1, api.ESUM)
}

// TestAboutThereAndBack sends messages about packets, and takes from them what
// they are about.
func TestAboutThereAndBack(t *testing.T) {
	for seed := range uint32(3000) {
		p := noiseCarrier(seed)
		p.Proto, p.Body = int(seed%20), noise(int(seed%70), seed)
		b := onWire(t, p)
		if denied(b) {
			checkOf(t, p, api.EDENY)
			continue
		}
		checkOf(t, p, api.OK)
		q, _ := icmp.About(own, b, 11, 1)
		got, e := ip4.Get(onWire(t, q))
		if e != api.OK || got.From != own || got.To != p.From || got.Ttl != 64 {
			t.Errorf("P9.2: the packet of About(%x): %v, %d", b, got, e)
		}
		end := 20 + len(p.Opts) + min(len(p.Body), 8)
		checkGet(t, got, icmp.Message{Type: 11, Code: 1, Body: b[:end]}, api.OK)
	}
}

// TestAboutOfNoise has bytes that are hardly ever a packet, and such with the
// beginning of one.
func TestAboutOfNoise(t *testing.T) {
	for seed := range uint32(5000) {
		b := noise(int(seed%120), seed)
		want, e := plainAbout(own, b, 3, 1)
		checkAbout(t, own, b, 3, 1, want, e)
		if len(b) < 60 {
			continue
		}
		b[0], b[2], b[6], b[7] = 0x45+b[0]%11, 0, b[6]&0xe0, 0
		b = headerSummed(b)
		want, e = plainAbout(own, b, 3, 1)
		checkAbout(t, own, b, 3, 1, want, e)
	}
}

// TestAboutsArgumentRemains has packets that are accepted and refused, and looks
// behind their ends too.
func TestAboutsArgumentRemains(t *testing.T) {
	good := onWire(t, asked)
	for _, b := range [][]byte{good, good[:19], good[:26], append(bytes.Clone(good), 1, 2, 3), noise(40, 1), nil} {
		b = spare(b)
		whole := b[:len(b)+40]
		before := bytes.Clone(whole)
		icmp.About(own, b, 3, 1)
		icmp.About(own, b, 300, 1)
		if !bytes.Equal(whole, before) {
			t.Errorf("R4: About(%x) changes its argument", before)
		}
	}
}

// TestResultsOfAboutAreNewMemory ruins arguments and looks at results, and ruins
// results and looks at arguments and other results.
func TestResultsOfAboutAreNewMemory(t *testing.T) {
	for _, size := range []int{0, 7, 8, 9, 1400} {
		b := spare(onWire(t, with(asked, func(p *ip4.Packet) { p.Body = noise(size, 1) })))
		want, _ := plainAbout(own, b, 3, 1)
		got, _ := icmp.About(own, b, 3, 1)
		again, _ := icmp.About(own, b, 3, 1)
		ruin(again.Opts)
		ruin(again.Body)
		checkAbout(t, own, b, 3, 1, want, api.OK)
		ruin(b)
		if !same(got, want) {
			t.Errorf("R4: results of About share memory: %v instead of %v", got, want)
		}
	}
}

// TestAboutDependsOnArgumentsAlone makes calls that succeed and that fail before
// those whose results it looks at.
func TestAboutDependsOnArgumentsAlone(t *testing.T) {
	good := onWire(t, asked)
	for seed := range uint32(5) {
		busy := onWire(t, noiseCarrier(seed))
		icmp.About(api.Addr{1, 2, 3, 4}, busy, 4, 5)
		icmp.About(own, good, 256, 0)
		icmp.About(own, good[:20], 3, 0)
		icmp.About(api.Addr{1, 2, 3, 4}, good, 12, 0)
		checkAboutPlain(t, good, 3, 1, api.OK)
	}
}
