package opt_test

import (
	"bytes"
	"slices"
	"testing"

	"gatehouse/api"
	"gatehouse/opt"
)

// plainGet is the word of the chapter: first all options, and then, for each
// Code at its first place, the bodies of all that have it.
func plainGet(b []byte) ([]opt.Option, api.Errno) {
	all, ok := plainSplit(b)
	if !ok {
		return nil, api.ESHORT
	}
	var l []opt.Option
	for i, o := range all {
		if slices.IndexFunc(all, func(p opt.Option) bool { return p.Code == o.Code }) < i {
			continue
		}
		joined := opt.Option{Code: o.Code}
		for _, p := range all[i:] {
			if p.Code == o.Code {
				joined.Body = append(joined.Body, p.Body...)
			}
		}
		l = append(l, joined)
	}
	return l, api.OK
}

// plainSplit returns the options as they stand in b.
func plainSplit(b []byte) ([]opt.Option, bool) {
	if len(b) == 0 {
		return nil, false
	}
	if b[0] == 255 {
		return nil, true
	}
	if b[0] == 0 {
		return plainSplit(b[1:])
	}
	if len(b) < 2 || len(b)-2 < int(b[1]) {
		return nil, false
	}
	behind := 2 + int(b[1])
	rest, ok := plainSplit(b[behind:])
	return append([]opt.Option{{Code: int(b[0]), Body: b[2:behind]}}, rest...), ok
}

// plainPut is the word of the chapter: all bytes, which are then counted.
func plainPut(l []opt.Option) ([]byte, api.Errno) {
	counts := map[int]int{}
	for _, o := range l {
		counts[o.Code]++
		if o.Code < 1 || o.Code > 254 || counts[o.Code] > 1 {
			return nil, api.EARG
		}
	}
	var b []byte
	for _, o := range l {
		pieces := slices.Collect(slices.Chunk(o.Body, 255))
		if len(pieces) == 0 {
			pieces = [][]byte{nil}
		}
		for _, p := range pieces {
			b = append(b, byte(o.Code), byte(len(p)))
			b = append(b, p...)
		}
	}
	if b = append(b, 255); len(b) > 1200 {
		return nil, api.ELIMIT
	}
	return b, api.OK
}

func checkGetAsPlain(t *testing.T, b []byte) {
	t.Helper()
	l, e := opt.Get(b)
	want, wantE := plainGet(b)
	if e != wantE || !same(l, want) {
		t.Fatalf("P12.1: Get(%v): %v, %d instead of %v, %d", b, l, e, want, wantE)
	}
}

func checkPutAsPlain(t *testing.T, l []opt.Option) {
	t.Helper()
	b, e := opt.Put(l)
	want, wantE := plainPut(l)
	if e != wantE || !bytes.Equal(b, want) {
		t.Fatalf("P12.1: Put(%v): %v, %d instead of %v, %d", l, b, e, want, wantE)
	}
	if e != api.OK {
		return
	}
	if back, e := opt.Get(b); e != api.OK || !same(back, l) {
		t.Fatalf("P12.1: Get of Put(%v): %v, %d", l, back, e)
	}
}

// dice rolls numbers that depend on where it starts alone.
type dice uint32

func (d *dice) roll(n int) int {
	*d = *d*1664525 + 1013904223
	return int(uint64(*d>>8) * uint64(n) >> 24)
}

// TestGetOfAllShortLists has all lists of up to 7 bytes of those that tell most.
func TestGetOfAllShortLists(t *testing.T) {
	bytesOf := []byte{0, 1, 2, 3, 254, 255}
	var try func(b []byte)
	try = func(b []byte) {
		checkGetAsPlain(t, b)
		if len(b) == 7 {
			return
		}
		for _, c := range bytesOf {
			try(append(b, c))
		}
	}
	try(nil)
}

// TestGetOfAllPairs has all lists of two bytes, alone and before others.
func TestGetOfAllPairs(t *testing.T) {
	for pair := range 1 << 16 {
		b := []byte{byte(pair >> 8), byte(pair)}
		checkGetAsPlain(t, b)
		checkGetAsPlain(t, append(b, 9, 1, 7, 255, 255))
	}
}

// TestGetOfLongLists has lists with few Codes, so that many of them are joined.
func TestGetOfLongLists(t *testing.T) {
	d := dice(1)
	for range 3000 {
		var b []byte
		for range d.roll(40) {
			if d.roll(4) == 0 {
				b = append(b, 0)
				continue
			}
			size := d.roll(6)
			if d.roll(8) == 0 {
				size = d.roll(256)
			}
			b = append(b, byte(1+d.roll(6)*50), byte(size))
			b = append(b, noise(size, d.roll(1000))...)
		}
		b = append(b, 255)
		checkGetAsPlain(t, b)
		checkGetAsPlain(t, b[:d.roll(len(b))])
		b[d.roll(len(b))] = byte(d.roll(256))
		checkGetAsPlain(t, b)
	}
}

// TestPutOfManyLists has options of small and of large sizes, some of which are
// refused for their Codes and some for their bytes.
func TestPutOfManyLists(t *testing.T) {
	d := dice(2)
	results := map[api.Errno]int{}
	for range 5000 {
		var l []opt.Option
		for range d.roll(8) {
			size := d.roll(5)
			if d.roll(2) == 0 {
				size = d.roll(600)
			}
			code := 1 + d.roll(254)
			if d.roll(40) == 0 {
				code = wrongCodes[d.roll(len(wrongCodes))]
			}
			l = append(l, sized(code, size))
		}
		checkPutAsPlain(t, l)
		_, e := opt.Put(l)
		results[e]++
	}
	for _, e := range []api.Errno{api.OK, api.EARG, api.ELIMIT} {
		if results[e] < 300 {
			t.Errorf("only %d lists with the result %d", results[e], e)
		}
	}
}

// TestPutAtTheLimit has one to five options with 1190 to 1210 bytes together.
func TestPutAtTheLimit(t *testing.T) {
	d := dice(3)
	for round := range 4000 {
		var l []opt.Option
		left := 1190 + round%21
		for i := range d.roll(5) {
			size := d.roll(left / 2)
			l = append(l, sized(i+1, size))
			left -= size
		}
		checkPutAsPlain(t, append(l, sized(254, max(0, left-2*len(l)-d.roll(12)))))
	}
}
