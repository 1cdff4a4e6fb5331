package arp_test

import (
	"bytes"
	"math"
	"testing"

	"gatehouse/api"
	"gatehouse/arp"
	"gatehouse/ether"
)

// example is a question with a value in each field, and its bytes.
var (
	example = arp.Packet{
		Op:      1,
		FromMac: api.Mac{11, 12, 13, 14, 15, 16},
		From:    api.Addr{21, 22, 23, 24},
		ToMac:   api.Mac{31, 32, 33, 34, 35, 36},
		To:      api.Addr{41, 42, 43, 44},
	}
	exampleBytes = []byte{
		0, 1, 8, 0, 6, 4, 0, 1,
		11, 12, 13, 14, 15, 16,
		21, 22, 23, 24,
		31, 32, 33, 34, 35, 36,
		41, 42, 43, 44,
	}
)

var (
	ones  = api.Mac{255, 255, 255, 255, 255, 255}
	one   = api.Addr{10, 0, 0, 1}
	nine  = api.Addr{10, 0, 0, 9}
	own   = api.Mac{2, 2, 2, 2, 2, 2}
	other = api.Mac{4, 5, 6, 7, 8, 9}
)

// wrongOps are those of no packet. Many of them become an Op of one if they are
// cut to 8, 16 or 32 bits.
var wrongOps = []int{
	0, 3, 4, 5, 8, 9, 255, 256, 257, 258, 511, 512, 513, 65535, 65536, 65537, 65538, 1<<32 + 1, 1<<32 + 2, math.MaxInt32, math.MaxInt - 1, math.MaxInt,
	-1, -2, -254, -255, -256, -65534, -65535, -65536, -(1 << 32) + 1, -(1 << 32) + 2, math.MinInt32, math.MinInt32 + 1, math.MinInt, math.MinInt + 1, math.MinInt + 2,
}

// noise returns n bytes that look irregular and depend on seed alone.
func noise(n int, seed uint32) []byte {
	b := make([]byte, n)
	for i := range b {
		seed = seed*1664525 + 1013904223
		b[i] = byte(seed >> 24)
	}
	return b
}

// noisePacket returns a packet with such bytes in it.
func noisePacket(op int, seed uint32) arp.Packet {
	b := noise(20, seed)
	return arp.Packet{Op: op, FromMac: api.Mac(b[:6]), From: api.Addr(b[6:10]), ToMac: api.Mac(b[10:16]), To: api.Addr(b[16:])}
}

// plainPut is the word of the chapter, place by place.
func plainPut(p arp.Packet) []byte {
	b := []byte{0, 1, 8, 0, 6, 4, 0, byte(p.Op)}
	for _, part := range [][]byte{p.FromMac[:], p.From[:], p.ToMac[:], p.To[:]} {
		b = append(b, part...)
	}
	return b
}

// plainGet is the word of the chapter, with one comparison for the beginning.
func plainGet(b []byte) (arp.Packet, api.Errno) {
	if len(b) < 28 {
		return arp.Packet{}, api.ESHORT
	}
	begin := string(b[:8])
	if begin != "\x00\x01\x08\x00\x06\x04\x00\x01" && begin != "\x00\x01\x08\x00\x06\x04\x00\x02" {
		return arp.Packet{}, api.EFORM
	}
	return arp.Packet{Op: int(b[7]), FromMac: api.Mac(b[8:14]), From: api.Addr(b[14:18]), ToMac: api.Mac(b[18:24]), To: api.Addr(b[24:28])}, api.OK
}

// spare returns b in memory that goes on for 40 bytes behind its end.
func spare(b []byte) []byte {
	long := append(bytes.Clone(b), bytes.Repeat([]byte{0xee}, 40)...)
	return long[:len(b)]
}

// same reports whether two frames agree in all their fields: a nil Body and an
// empty one are equivalent.
func same(f, g ether.Frame) bool {
	return f.To == g.To && f.From == g.From && f.Type == g.Type && bytes.Equal(f.Body, g.Body)
}

func checkGet(t *testing.T, b []byte, want arp.Packet, wantE api.Errno) {
	t.Helper()
	p, e := arp.Get(b)
	if e != wantE {
		t.Errorf("P5.1: Get(%x): %d instead of %d", b, e, wantE)
	}
	if p != want {
		t.Errorf("P5.1, R2: Get(%x) with the error %d: %v instead of %v", b, e, p, want)
	}
}

func checkPut(t *testing.T, p arp.Packet, want []byte, wantE api.Errno) {
	t.Helper()
	b, e := arp.Put(p)
	if e != wantE {
		t.Errorf("P5.1: Put(%v): %d instead of %d", p, e, wantE)
	}
	if !bytes.Equal(b, want) {
		t.Errorf("P5.1, R2: Put(%v) with the error %d: %x instead of %x", p, e, b, want)
	}
}

func checkAsk(t *testing.T, mac api.Mac, from, to api.Addr) {
	t.Helper()
	f := arp.Ask(mac, from, to)
	body := plainPut(arp.Packet{Op: 1, FromMac: mac, From: from, To: to})
	if want := (ether.Frame{To: ones, From: mac, Type: 2054, Body: body}); !same(f, want) {
		t.Errorf("P5.1: Ask(%v, %v, %v): %v instead of %v", mac, from, to, f, want)
	}
}

func checkAnswer(t *testing.T, mac api.Mac, p arp.Packet) {
	t.Helper()
	f, e := arp.Answer(mac, p)
	body := plainPut(arp.Packet{Op: 2, FromMac: mac, From: p.To, ToMac: p.FromMac, To: p.From})
	if want := (ether.Frame{To: p.FromMac, From: mac, Type: 2054, Body: body}); e != api.OK || !same(f, want) {
		t.Errorf("P5.1: Answer(%v, %v): %v, %d instead of %v", mac, p, f, e, want)
	}
}

func checkAnswerRefuses(t *testing.T, mac api.Mac, p arp.Packet) {
	t.Helper()
	f, e := arp.Answer(mac, p)
	if e != api.EARG {
		t.Errorf("P5.1: Answer(%v, %v): %d", mac, p, e)
	}
	if !same(f, ether.Frame{}) {
		t.Errorf("R2: Answer(%v, %v) with the error %d: %v", mac, p, e, f)
	}
}

func TestGet(t *testing.T) {
	checkGet(t, exampleBytes, example, api.OK)
	reply := bytes.Clone(exampleBytes)
	reply[7] = 2
	want := example
	want.Op = 2
	checkGet(t, reply, want, api.OK)
	// The addresses are what they are: none of them is checked.
	checkGet(t, append([]byte{0, 1, 8, 0, 6, 4, 0, 1}, make([]byte, 20)...), arp.Packet{Op: 1}, api.OK)
	all := api.Addr{255, 255, 255, 255}
	checkGet(t, append([]byte{0, 1, 8, 0, 6, 4, 0, 2}, bytes.Repeat([]byte{255}, 20)...), arp.Packet{Op: 2, FromMac: ones, From: all, ToMac: ones, To: all}, api.OK)
}

func TestGetOfEachLength(t *testing.T) {
	for _, op := range []byte{1, 2} {
		for n := range 1600 {
			b := append([]byte{0, 1, 8, 0, 6, 4, 0, op}, noise(1600, uint32(n))...)[:n]
			want, wantE := plainGet(b)
			checkGet(t, b, want, wantE)
			checkGet(t, spare(b), want, wantE)
		}
	}
	for _, b := range [][]byte{nil, {}, make([]byte, 0, 100), make([]byte, 27), make([]byte, 27, 100), exampleBytes[:27]} {
		checkGet(t, b, arp.Packet{}, api.ESHORT)
	}
	for _, n := range []int{1 << 16, 1<<16 + 27, 1 << 24} {
		checkGet(t, append(bytes.Clone(exampleBytes), make([]byte, n)...), example, api.OK)
	}
}

// TestGetIgnoresWhatFollows has bytes behind a packet that say something else.
func TestGetIgnoresWhatFollows(t *testing.T) {
	wrong := bytes.Repeat([]byte{255}, 28)
	for _, behind := range [][]byte{{0}, {255}, make([]byte, 18), noise(18, 3), exampleBytes, wrong} {
		checkGet(t, append(bytes.Clone(exampleBytes), behind...), example, api.OK)
		checkGet(t, append(bytes.Clone(wrong), behind...), arp.Packet{}, api.EFORM)
	}
	checkGet(t, append(bytes.Clone(wrong), exampleBytes...), arp.Packet{}, api.EFORM)
}

// TestGetOfEachByte puts all values at each place of a packet.
func TestGetOfEachByte(t *testing.T) {
	for _, base := range [][]byte{exampleBytes, plainPut(noisePacket(2, 8))} {
		for at := range 28 {
			for v := range 256 {
				b := bytes.Clone(base)
				b[at] = byte(v)
				want, wantE := plainGet(b)
				checkGet(t, b, want, wantE)
			}
		}
	}
}

// TestGetOfEachOp has all numbers that two bytes hold.
func TestGetOfEachOp(t *testing.T) {
	for op := range 65536 {
		b := bytes.Clone(exampleBytes)
		b[6], b[7] = byte(op/256), byte(op%256)
		want, wantE := arp.Packet{}, api.EFORM
		if op == 1 || op == 2 {
			want, wantE = example, api.OK
			want.Op = op
		}
		checkGet(t, b, want, wantE)
	}
}

func TestGetOfOtherForms(t *testing.T) {
	for _, begin := range [][]byte{
		{0, 0, 0, 0, 0, 0, 0, 0},
		{0, 2, 8, 0, 6, 4, 0, 1},
		{1, 0, 8, 0, 6, 4, 0, 1},
		{1, 1, 8, 0, 6, 4, 0, 1},
		{0, 6, 8, 0, 6, 4, 0, 2},
		{0, 1, 0, 8, 6, 4, 0, 1},
		{0, 1, 8, 1, 6, 4, 0, 1},
		{0, 1, 8, 6, 6, 4, 0, 1},
		{0, 1, 134, 221, 6, 16, 0, 1},
		{0, 1, 8, 0, 4, 6, 0, 1},
		{0, 1, 8, 0, 5, 5, 0, 1},
		{0, 1, 8, 0, 6, 16, 0, 1},
		{0, 1, 8, 0, 8, 4, 0, 1},
		{0, 1, 8, 0, 6, 4, 1, 0},
		{0, 1, 8, 0, 6, 4, 2, 0},
		{0, 1, 8, 0, 6, 4, 1, 1},
		{0, 1, 8, 0, 6, 4, 0, 0},
		{0, 1, 8, 0, 6, 4, 0, 3},
		{8, 0, 0, 1, 6, 4, 0, 1},
		{1, 8, 0, 6, 4, 0, 1, 0},
		{255, 255, 255, 255, 255, 255, 255, 255},
	} {
		checkGet(t, append(bytes.Clone(begin), exampleBytes[8:]...), arp.Packet{}, api.EFORM)
		// If both errors apply, the length is told.
		checkGet(t, append(bytes.Clone(begin), exampleBytes[8:27]...), arp.Packet{}, api.ESHORT)
		checkGet(t, begin, arp.Packet{}, api.ESHORT)
	}
}

func TestPut(t *testing.T) {
	checkPut(t, example, exampleBytes, api.OK)
	reply := example
	reply.Op = 2
	want := bytes.Clone(exampleBytes)
	want[7] = 2
	checkPut(t, reply, want, api.OK)
	checkPut(t, arp.Packet{Op: 1}, append([]byte{0, 1, 8, 0, 6, 4, 0, 1}, make([]byte, 20)...), api.OK)
	checkPut(t, arp.Packet{Op: 2}, append([]byte{0, 1, 8, 0, 6, 4, 0, 2}, make([]byte, 20)...), api.OK)
	checkPut(t, arp.Packet{Op: 2, ToMac: ether.Broad()}, append(append([]byte{0, 1, 8, 0, 6, 4, 0, 2}, make([]byte, 10)...), 255, 255, 255, 255, 255, 255, 0, 0, 0, 0), api.OK)
}

func TestPutOfWrongOps(t *testing.T) {
	for _, op := range wrongOps {
		p := example
		p.Op = op
		checkPut(t, p, nil, api.EARG)
		checkPut(t, arp.Packet{Op: op}, nil, api.EARG)
	}
	checkPut(t, arp.Packet{}, nil, api.EARG)
	for op := 3; op < 1<<17; op++ {
		checkPut(t, arp.Packet{Op: op}, nil, api.EARG)
	}
}

func TestPutThereAndBack(t *testing.T) {
	for seed := range uint32(500) {
		for _, op := range []int{1, 2} {
			p := noisePacket(op, seed)
			checkPut(t, p, plainPut(p), api.OK)
			checkGet(t, plainPut(p), p, api.OK)
		}
	}
}

func TestAsk(t *testing.T) {
	f := arp.Ask(api.Mac{2, 0, 0, 0, 0, 7}, api.Addr{192, 168, 1, 1}, api.Addr{192, 168, 1, 20})
	want := ether.Frame{
		To:   api.Mac{255, 255, 255, 255, 255, 255},
		From: api.Mac{2, 0, 0, 0, 0, 7},
		Type: 2054,
		Body: []byte{0, 1, 8, 0, 6, 4, 0, 1, 2, 0, 0, 0, 0, 7, 192, 168, 1, 1, 0, 0, 0, 0, 0, 0, 192, 168, 1, 20},
	}
	if !same(f, want) {
		t.Errorf("P5.1: Ask: %v instead of %v", f, want)
	}
	if len(f.Body) != 28 {
		t.Errorf("P5.1: the Body has %d bytes", len(f.Body))
	}
}

// TestAskOfAnyAddresses has addresses that no host has, and those of the asker.
func TestAskOfAnyAddresses(t *testing.T) {
	all := api.Addr{255, 255, 255, 255}
	for _, mac := range []api.Mac{own, other, {}, ones, {1, 0, 94, 0, 0, 1}} {
		for _, from := range []api.Addr{one, nine, {}, all, {224, 0, 0, 1}} {
			for _, to := range []api.Addr{one, nine, {}, all, {127, 0, 0, 1}} {
				checkAsk(t, mac, from, to)
			}
		}
	}
	for seed := range uint32(200) {
		p := noisePacket(1, seed)
		checkAsk(t, p.FromMac, p.From, p.To)
	}
}

func TestAnswer(t *testing.T) {
	f, e := arp.Answer(api.Mac{2, 0, 0, 0, 0, 9}, example)
	want := ether.Frame{
		To:   api.Mac{11, 12, 13, 14, 15, 16},
		From: api.Mac{2, 0, 0, 0, 0, 9},
		Type: 2054,
		Body: []byte{0, 1, 8, 0, 6, 4, 0, 2, 2, 0, 0, 0, 0, 9, 41, 42, 43, 44, 11, 12, 13, 14, 15, 16, 21, 22, 23, 24},
	}
	if e != api.OK || !same(f, want) {
		t.Errorf("P5.1: Answer: %v, %d instead of %v", f, e, want)
	}
	if len(f.Body) != 28 {
		t.Errorf("P5.1: the Body has %d bytes", len(f.Body))
	}
}

// TestAnswerOfAnyQuestion has questions that no host should ask: Answer does
// not judge them.
func TestAnswerOfAnyQuestion(t *testing.T) {
	for _, p := range []arp.Packet{
		{Op: 1},
		{Op: 1, FromMac: own, From: one, To: one},
		{Op: 1, FromMac: other, From: one, ToMac: ones, To: nine},
		{Op: 1, FromMac: ones, From: api.Addr{255, 255, 255, 255}, ToMac: own, To: api.Addr{}},
		{Op: 1, FromMac: other, To: nine},
		{Op: 1, From: one, To: nine},
	} {
		for _, mac := range []api.Mac{own, other, {}, ones} {
			checkAnswer(t, mac, p)
		}
	}
	for seed := range uint32(200) {
		checkAnswer(t, own, noisePacket(1, seed))
		checkAnswer(t, noisePacket(1, seed+1000).FromMac, noisePacket(1, seed))
	}
}

func TestAnswerOfOtherPackets(t *testing.T) {
	for _, op := range append([]int{2}, wrongOps...) {
		p := example
		p.Op = op
		checkAnswerRefuses(t, own, p)
		checkAnswerRefuses(t, api.Mac{}, arp.Packet{Op: op})
	}
	checkAnswerRefuses(t, own, arp.Packet{})
}

// TestQuestionAndAnswer follows a talk of two hosts by the bytes of its frames.
func TestQuestionAndAnswer(t *testing.T) {
	p := carried(t, arp.Ask(own, one, nine))
	if p != (arp.Packet{Op: 1, FromMac: own, From: one, To: nine}) {
		t.Errorf("P5.1: the question: %v", p)
	}
	f, e := arp.Answer(other, p)
	if e != api.OK {
		t.Fatalf("P5.1: Answer: %d", e)
	}
	q := carried(t, f)
	if q != (arp.Packet{Op: 2, FromMac: other, From: nine, ToMac: own, To: one}) {
		t.Errorf("P5.1: the answer: %v", q)
	}
	checkAnswerRefuses(t, own, q)
}

// carried returns the packet in f, after f has become bytes, padding and a frame
// again.
func carried(t *testing.T, f ether.Frame) arp.Packet {
	t.Helper()
	b, e := ether.Put(f)
	if e != api.OK {
		t.Fatalf("P5.1: the frame is not accepted: %d", e)
	}
	g, e := ether.Get(append(b, make([]byte, 18)...))
	if e != api.OK {
		t.Fatalf("P5.1: the frame is not read: %d", e)
	}
	p, e := arp.Get(g.Body)
	if e != api.OK {
		t.Fatalf("P5.1: the packet is not read: %d", e)
	}
	return p
}

// TestGetDoesNotChangeItsArgument has lists that are accepted and refused, and
// looks behind their ends too.
func TestGetDoesNotChangeItsArgument(t *testing.T) {
	for _, b := range [][]byte{exampleBytes, exampleBytes[:27], append(bytes.Clone(exampleBytes), 1, 2, 3), noise(28, 1), nil} {
		b = spare(b)
		whole := bytes.Clone(b[:len(b)+40])
		p, _ := arp.Get(b)
		if !bytes.Equal(b[:len(b)+40], whole) {
			t.Errorf("R4: Get(%x) changes its argument", whole)
		}
		kept := p
		clear(b[:len(b)+40])
		if p != kept {
			t.Errorf("R4: the result of Get(%x) shares its memory", whole)
		}
	}
}

func TestResultsAreNewMemory(t *testing.T) {
	for _, c := range []struct {
		name string
		call func() []byte
	}{
		{"Put", func() []byte { b, _ := arp.Put(example); return b }},
		{"Ask", func() []byte { return arp.Ask(own, one, nine).Body }},
		{"Answer", func() []byte { f, _ := arp.Answer(own, example); return f.Body }},
	} {
		first, second := c.call(), c.call()
		want := bytes.Clone(second)
		clear(first[:cap(first)])
		_ = append(first, 1, 2, 3)
		if !bytes.Equal(second, want) || !bytes.Equal(c.call(), want) {
			t.Errorf("R4: two results of %s share memory", c.name)
		}
	}
}

// TestResultsDependOnArgumentsAlone makes calls that succeed and that fail
// between those whose results it looks at.
func TestResultsDependOnArgumentsAlone(t *testing.T) {
	for seed := range uint32(3) {
		busy := noisePacket(1, seed)
		arp.Get(plainPut(busy))
		arp.Get(make([]byte, 27))
		arp.Get(make([]byte, 28))
		checkGet(t, exampleBytes, example, api.OK)
		arp.Put(busy)
		arp.Put(arp.Packet{Op: 3, From: nine})
		checkPut(t, example, exampleBytes, api.OK)
		arp.Ask(busy.FromMac, busy.From, busy.To)
		checkAsk(t, own, one, nine)
		arp.Answer(other, busy)
		arp.Answer(other, arp.Packet{Op: 2, From: nine})
		checkAnswer(t, own, example)
	}
}
