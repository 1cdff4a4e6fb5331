package ether_test

import (
	"bytes"
	"math"
	"testing"

	"gatehouse/api"
	"gatehouse/ether"
)

// example is a frame with the two bytes "hi" in it, and its bytes.
var (
	example = ether.Frame{
		To:   api.Mac{1, 2, 3, 4, 5, 6},
		From: api.Mac{7, 8, 9, 10, 11, 12},
		Type: 0x0806,
		Body: []byte("hi"),
	}
	exampleBytes = []byte("\x01\x02\x03\x04\x05\x06\x07\x08\x09\x0a\x0b\x0c\x08\x06hi")
)

// noise returns n bytes that look irregular and depend on seed alone.
func noise(n int, seed uint32) []byte {
	b := make([]byte, n)
	for i := range b {
		seed = seed*1664525 + 1013904223
		b[i] = byte(seed >> 24)
	}
	return b
}

// spare returns b in memory that goes on for 40 bytes behind its end.
func spare(b []byte) []byte {
	long := append(bytes.Clone(b), bytes.Repeat([]byte{0xee}, 40)...)
	return long[:len(b)]
}

// same reports whether two frames agree in all their fields: a nil Body and an
// empty one are equivalent.
func same(f, g ether.Frame) bool {
	return f.To == g.To && f.From == g.From && f.Type == g.Type && bytes.Equal(f.Body, g.Body)
}

// plainGet is the word of the chapter, place by place, for as many bytes as a
// frame may have.
func plainGet(b []byte) ether.Frame {
	return ether.Frame{
		To:   api.Mac(b[:6]),
		From: api.Mac(b[6:12]),
		Type: 256*int(b[12]) + int(b[13]),
		Body: b[14:],
	}
}

func checkGet(t *testing.T, b []byte, want ether.Frame) {
	t.Helper()
	if f, e := ether.Get(b); e != api.OK || !same(f, want) {
		t.Errorf("P4.1: Get of %d bytes: %v, %d instead of %v", len(b), f, e, want)
	}
}

func checkGetRefuses(t *testing.T, b []byte, want api.Errno) {
	t.Helper()
	f, e := ether.Get(b)
	if e != want {
		t.Errorf("P4.1: Get of %d bytes: %d instead of %d", len(b), e, want)
	}
	if !same(f, ether.Frame{}) {
		t.Errorf("R2: Get of %d bytes with the error %d: %v", len(b), e, f)
	}
}

func checkPut(t *testing.T, f ether.Frame, want []byte) {
	t.Helper()
	if b, e := ether.Put(f); e != api.OK || !bytes.Equal(b, want) {
		t.Errorf("P4.1: Put of Type %d, Body of %d bytes: %x, %d instead of %x", f.Type, len(f.Body), b, e, want)
	}
}

func checkPutRefuses(t *testing.T, f ether.Frame, want api.Errno) {
	t.Helper()
	b, e := ether.Put(f)
	if e != want {
		t.Errorf("P4.1: Put of Type %d, Body of %d bytes: %d instead of %d", f.Type, len(f.Body), e, want)
	}
	if len(b) != 0 {
		t.Errorf("R2: Put of Type %d, Body of %d bytes with the error %d: %x", f.Type, len(f.Body), e, b)
	}
}

func TestGet(t *testing.T) {
	checkGet(t, exampleBytes, example)
	// Type and Body are what they are, even if Type says a length that is wrong.
	checkGet(t, make([]byte, 14), ether.Frame{})
	checkGet(t, make([]byte, 60), ether.Frame{Body: make([]byte, 46)})
	checkGet(t, bytes.Repeat([]byte{255}, 16), ether.Frame{To: ether.Broad(), From: ether.Broad(), Type: 65535, Body: []byte{255, 255}})
	checkGet(t, []byte{1, 0, 0, 0, 0, 0, 2, 0, 0, 0, 0, 0, 0, 1, 7}, ether.Frame{To: api.Mac{1}, From: api.Mac{2}, Type: 1, Body: []byte{7}})
}

// TestGetOfEachLength has all lengths that a frame may have, and those around.
func TestGetOfEachLength(t *testing.T) {
	for n := range 1600 {
		b := noise(n, uint32(n))
		switch {
		case n > 1514:
			checkGetRefuses(t, b, api.ELIMIT)
		case n < 14:
			checkGetRefuses(t, b, api.ESHORT)
		default:
			checkGet(t, b, plainGet(b))
			checkGet(t, spare(b), plainGet(b))
		}
	}
}

func TestGetAtTheEdges(t *testing.T) {
	for _, b := range [][]byte{nil, {}, make([]byte, 0, 100), make([]byte, 13), make([]byte, 13, 100)} {
		checkGetRefuses(t, b, api.ESHORT)
	}
	for _, n := range []int{1515, 1516, 1518, 1522, 4096, 1514 + 65536, 1 << 16, 1<<16 + 14, 1 << 24} {
		checkGetRefuses(t, make([]byte, n), api.ELIMIT)
	}
	if f, e := ether.Get(make([]byte, 1514)); e != api.OK || len(f.Body) != 1500 {
		t.Errorf("P4.1: Get of 1514 bytes: Body of %d bytes, %d", len(f.Body), e)
	}
}

// TestGetOfEachByte puts all values at each place before the body, and at its
// first bytes.
func TestGetOfEachByte(t *testing.T) {
	for at := range 18 {
		for v := range 256 {
			b := noise(18, 9)
			b[at] = byte(v)
			checkGet(t, b, plainGet(b))
		}
	}
}

func TestPut(t *testing.T) {
	checkPut(t, example, exampleBytes)
	checkPut(t, ether.Frame{}, make([]byte, 14))
	checkPut(t, ether.Frame{To: ether.Broad(), From: api.Mac{2, 0, 0, 0, 0, 1}, Type: 65535},
		[]byte{255, 255, 255, 255, 255, 255, 2, 0, 0, 0, 0, 1, 255, 255})
	checkPut(t, ether.Frame{Type: 2048, Body: []byte{69}}, []byte{0, 0, 0, 0, 0, 0, 0, 0, 0, 0, 0, 0, 8, 0, 69})
	checkPut(t, ether.Frame{Type: 1, Body: []byte{}}, []byte{0, 0, 0, 0, 0, 0, 0, 0, 0, 0, 0, 0, 0, 1})
}

func TestPutOfEachType(t *testing.T) {
	want := bytes.Clone(exampleBytes)
	f := example
	for v := range 65536 {
		f.Type = v
		want[12], want[13] = byte(v/256), byte(v%256)
		checkPut(t, f, want)
	}
}

func TestPutOfWrongTypes(t *testing.T) {
	for _, v := range []int{
		-1, -2, -255, -256, -65535, -65536, -65537, math.MinInt32, -(1 << 32), math.MinInt + 1, math.MinInt,
		65536, 65537, 65536 + 2048, 131071, 131072, math.MaxInt32, 1 << 32, 1<<32 + 2048, math.MaxInt - 1, math.MaxInt,
	} {
		f := example
		f.Type = v
		checkPutRefuses(t, f, api.EARG)
		checkPutRefuses(t, ether.Frame{Type: v}, api.EARG)
		checkPutRefuses(t, ether.Frame{Type: v, Body: make([]byte, 1500)}, api.EARG)
		// If both errors apply, the length is told.
		checkPutRefuses(t, ether.Frame{Type: v, Body: make([]byte, 1501)}, api.ELIMIT)
	}
}

// TestPutOfEachLength has all lengths that a body may have, and those beyond.
func TestPutOfEachLength(t *testing.T) {
	for n := range 1600 {
		f := ether.Frame{To: api.Mac{1, 2, 3, 4, 5, 6}, From: api.Mac{7, 8, 9, 10, 11, 12}, Type: 2054, Body: noise(n, uint32(n))}
		if n > 1500 {
			checkPutRefuses(t, f, api.ELIMIT)
			continue
		}
		checkPut(t, f, append(bytes.Clone(exampleBytes[:14]), f.Body...))
	}
	for _, n := range []int{1514, 1515, 4096, 1 << 16, 1<<16 + 1, 1 << 24} {
		checkPutRefuses(t, ether.Frame{Type: 2048, Body: make([]byte, n)}, api.ELIMIT)
	}
}

func TestPutThereAndBack(t *testing.T) {
	for n := 14; n <= 1514; n += 25 {
		b := noise(n, uint32(n)+7)
		f, e := ether.Get(b)
		if e != api.OK {
			t.Fatalf("P4.1: Get of %d bytes: %d", n, e)
		}
		checkPut(t, f, b)
	}
}

func TestBroad(t *testing.T) {
	if m := ether.Broad(); m != (api.Mac{0xff, 0xff, 0xff, 0xff, 0xff, 0xff}) {
		t.Errorf("P4.1: Broad: %v", m)
	}
	m := ether.Broad()
	m[0] = 0
	if ether.Broad()[0] != 255 {
		t.Errorf("R5: Broad depends on a change of its result")
	}
}

// TestGroup has all first bytes, before bytes that are all even, all odd, and
// mixed: only the first one tells.
func TestGroup(t *testing.T) {
	for v := range 256 {
		for _, m := range []api.Mac{{}, {0, 255, 255, 255, 255, 255}, {0, 1, 2, 3, 4, 5}, {0, 2, 4, 6, 8, 11}} {
			m[0] = byte(v)
			if want := v%2 != 0; ether.Group(m) != want {
				t.Errorf("P4.1: Group(%v): %v", m, !want)
			}
		}
	}
	if !ether.Group(ether.Broad()) || ether.Group(api.Mac{}) {
		t.Errorf("P4.1: Group of Broad() or of zeros")
	}
}

func TestMine(t *testing.T) {
	own := api.Mac{2, 1, 1, 1, 1, 1}
	for _, c := range []struct {
		m, own api.Mac
		want   bool
	}{
		{own, own, true},
		{api.Mac{2, 1, 1, 1, 1, 2}, own, false},
		{ether.Broad(), own, true},
		{api.Mac{1, 0, 0x5e, 0, 0, 1}, own, true},
		{api.Mac{3, 1, 1, 1, 1, 1}, own, true},
		{api.Mac{}, own, false},
		{own, api.Mac{}, false},
		{api.Mac{}, api.Mac{}, true},
		// The own address is a group's: it does not make others its own.
		{api.Mac{2, 0, 0, 0, 0, 1}, api.Mac{3, 0, 0, 0, 0, 1}, false},
		{api.Mac{3, 0, 0, 0, 0, 1}, api.Mac{3, 0, 0, 0, 0, 1}, true},
		{api.Mac{1, 0, 0, 0, 0, 1}, api.Mac{3, 0, 0, 0, 0, 1}, true},
		{api.Mac{}, ether.Broad(), false},
		{ether.Broad(), ether.Broad(), true},
		// The bytes in another order are another address.
		{api.Mac{4, 3, 2, 1, 1, 1}, api.Mac{4, 1, 1, 1, 2, 3}, false},
	} {
		if got := ether.Mine(c.m, c.own); got != c.want {
			t.Errorf("P4.1: Mine(%v, %v): %v", c.m, c.own, got)
		}
	}
}

// TestMineOfEachBit changes each bit of the own address: only the lowest bit of
// the first byte makes a group address of it.
func TestMineOfEachBit(t *testing.T) {
	for _, own := range []api.Mac{{2, 1, 1, 1, 1, 1}, {}, {254, 255, 255, 255, 255, 255}, {4, 20, 99, 128, 7, 250}} {
		for i := range 48 {
			m := own
			m[i/8] ^= 1 << (i % 8)
			if got, want := ether.Mine(m, own), i == 0; got != want {
				t.Errorf("P4.1: Mine(%v, %v): %v", m, own, got)
			}
		}
	}
}

func TestGetReturnsNewMemory(t *testing.T) {
	for _, n := range []int{14, 15, 60, 1514} {
		b := spare(noise(n, 4))
		whole := bytes.Clone(b[:n+40])
		first, _ := ether.Get(b)
		second, _ := ether.Get(b)
		want := plainGet(bytes.Clone(b))
		clear(first.Body[:cap(first.Body)])
		_ = append(first.Body, 1, 2, 3)
		if !bytes.Equal(b[:n+40], whole) {
			t.Errorf("R4: Get of %d bytes changes them, or shares their memory", n)
		}
		if !same(second, want) {
			t.Errorf("R4: two results of Get of %d bytes share memory", n)
		}
		clear(b[:n+40])
		if !same(second, want) {
			t.Errorf("R4: the result of Get of %d bytes shares their memory", n)
		}
	}
}

func TestPutReturnsNewMemory(t *testing.T) {
	for _, n := range []int{0, 1, 46, 1500} {
		f := example
		f.Body = spare(noise(n, 5))
		whole := bytes.Clone(f.Body[:n+40])
		first, _ := ether.Put(f)
		second, _ := ether.Put(f)
		want := append(bytes.Clone(exampleBytes[:14]), whole[:n]...)
		clear(first[:cap(first)])
		_ = append(first, 1, 2, 3)
		if !bytes.Equal(f.Body[:n+40], whole) || f.To != example.To || f.From != example.From || f.Type != example.Type {
			t.Errorf("R4: Put of a body of %d bytes changes it, or shares its memory", n)
		}
		if !bytes.Equal(second, want) {
			t.Errorf("R4: two results of Put of a body of %d bytes share memory", n)
		}
		clear(f.Body[:n+40])
		if !bytes.Equal(second, want) {
			t.Errorf("R4: the result of Put of a body of %d bytes shares its memory", n)
		}
	}
}

// TestRefusalsDoNotChangeTheirArguments has lists for which there is an error.
func TestRefusalsDoNotChangeTheirArguments(t *testing.T) {
	for _, n := range []int{0, 13, 1501, 1515} {
		b := spare(noise(n, 6))
		whole := bytes.Clone(b[:n+40])
		if n < 14 || n > 1514 {
			if _, e := ether.Get(b); e == api.OK {
				t.Errorf("P4.1: Get of %d bytes: OK", n)
			}
		}
		if _, e := ether.Put(ether.Frame{Type: -1, Body: b}); e == api.OK {
			t.Errorf("P4.1: Put of Type -1, Body of %d bytes: OK", n)
		}
		if !bytes.Equal(b[:n+40], whole) {
			t.Errorf("R4: a list of %d bytes is changed", n)
		}
	}
}

// TestResultsDependOnArgumentsAlone makes calls that succeed and that fail
// between those whose results it looks at.
func TestResultsDependOnArgumentsAlone(t *testing.T) {
	for range 3 {
		ether.Get(bytes.Repeat([]byte{9}, 99))
		ether.Get(make([]byte, 13))
		ether.Get(make([]byte, 1515))
		checkGet(t, exampleBytes, example)
		ether.Put(ether.Frame{To: ether.Broad(), Type: 5, Body: make([]byte, 1500)})
		ether.Put(ether.Frame{To: ether.Broad(), Type: -1})
		checkPut(t, example, exampleBytes)
	}
	b := bytes.Clone(exampleBytes)
	ether.Get(b)
	b[14] = 'z'
	checkGet(t, b, ether.Frame{To: example.To, From: example.From, Type: example.Type, Body: []byte("zi")})
}
