package name_test

import (
	"slices"
	"strings"
	"testing"

	"gatehouse/api"
	"gatehouse/name"
)

// plainGet is the word of the chapter: the encoding of what Get finds, byte by byte,
// which is taken apart at the end.
func plainGet(b string, at int) ([]string, int, api.Errno) {
	encoding, after, pointers := "", 0, 0
	for {
		if at < 0 || at >= len(b) {
			return nil, 0, api.ESHORT
		}
		first, rest := int(b[at]), b[at+1:]
		switch {
		case first == 0:
			if pointers == 0 {
				after = at + 1
			}
			return plainSplit(encoding), after, api.OK
		case first < 64:
			if len(rest) < first {
				return nil, 0, api.ESHORT
			}
			encoding += b[at : at+1+first]
			if len(encoding+"\x00") > 255 {
				return nil, 0, api.EFORM
			}
			at += 1 + first
		case first < 192:
			return nil, 0, api.EFORM
		default:
			if rest == "" {
				return nil, 0, api.ESHORT
			}
			pointers++
			if pointers == 1 {
				after = at + 2
			}
			to := (256*first + int(rest[0])) % (1 << 14)
			if pointers == 65 || to >= at {
				return nil, 0, api.EFORM
			}
			at = to
		}
	}
}

// plainSplit takes an encoding apart, which has no end.
func plainSplit(encoding string) []string {
	if encoding == "" {
		return nil
	}
	n := 1 + int(encoding[0])
	return append([]string{encoding[1:n]}, plainSplit(encoding[n:])...)
}

func checkGetAsPlain(t *testing.T, b []byte, at int) api.Errno {
	t.Helper()
	l, after, e := name.Get(b, at)
	want, wantAfter, wantE := plainGet(string(b), at)
	if e != wantE || after != wantAfter || !slices.Equal(l, want) {
		t.Fatalf("P20.1: Get(%q, %d): %q, %d, %d instead of %q, %d, %d", b, at, l, after, e, want, wantAfter, wantE)
	}
	if e == api.OK && !name.Good(l) {
		t.Fatalf("P20.1: Get(%q, %d) is not good: %q", b, at, l)
	}
	return e
}

// dice rolls numbers that depend on where it starts alone.
type dice uint32

func (d *dice) roll(n int) int {
	*d = *d*1664525 + 1013904223
	return int(uint64(*d>>8) * uint64(n) >> 24)
}

// label returns a label of up to most bytes.
func (d *dice) label(most int) string {
	b := make([]byte, 1+d.roll(most))
	for i := range b {
		b[i] = byte(d.roll(256))
	}
	return string(b)
}

// TestGetOfAllShortLists has all lists of up to 6 of the bytes that tell most, from
// all offsets.
func TestGetOfAllShortLists(t *testing.T) {
	bytesOf := []byte{0, 1, 2, 3, 64, 192, 255}
	var try func(b []byte)
	try = func(b []byte) {
		for at := -1; at <= len(b)+1; at++ {
			checkGetAsPlain(t, b, at)
		}
		if len(b) == 6 {
			return
		}
		for _, c := range bytesOf {
			try(append(b, c))
		}
	}
	try(nil)
}

// TestGetOfAllPairs has all pairs of bytes where a part of a name may begin.
func TestGetOfAllPairs(t *testing.T) {
	around := []byte("\x01a\x00\x02bc\xc0\x00\x01d..\xc0\x03" + letters(250) + "\x00")
	for pair := range 1 << 16 {
		b := slices.Clone(around)
		b[10], b[11] = byte(pair>>8), byte(pair)
		checkGetAsPlain(t, b, 10)
		checkGetAsPlain(t, b, 8)
		checkGetAsPlain(t, b[:12], 10)
		checkGetAsPlain(t, b[:11], 8)
	}
}

// TestGetOfLinkedNames has names of which most go on in former ones.
func TestGetOfLinkedNames(t *testing.T) {
	d := dice(1)
	results := map[api.Errno]int{}
	for range 400 {
		b := []byte(strings.Repeat("\x00", d.roll(3)))
		places := []int{}
		known := map[int][]string{}
		for range 60 {
			var l []string
			at := len(b)
			starts := []int{}
			for range d.roll(4) {
				l = append(l, d.label(1+d.roll(30)))
				starts = append(starts, len(b))
				b = append(b, part(l[len(l)-1])...)
			}
			if starts = append(starts, len(b)); len(places) > 0 && d.roll(8) > 0 {
				to := places[d.roll(len(places))]
				l = append(l, known[to]...)
				b = append(b, lead(to)...)
			} else {
				b = append(b, 0)
			}
			for i, start := range starts {
				known[start] = l[i:]
				places = append(places, start)
			}
			e := checkGetAsPlain(t, b, at)
			results[e]++
			if e == api.OK {
				checkGet(t, string(b), at, l, len(b))
			} else if len(part(l...)) < 255 && len(l) < 60 {
				t.Errorf("P20.1: Get(%q, %d): %d", b, at, e)
			}
		}
		for range 20 {
			b[d.roll(len(b))] = byte(d.roll(256))
			results[checkGetAsPlain(t, b, places[d.roll(len(places))])]++
			results[checkGetAsPlain(t, b[:d.roll(len(b))], places[d.roll(len(places))])]++
		}
	}
	for _, e := range []api.Errno{api.OK, api.ESHORT, api.EFORM} {
		if results[e] < 300 {
			t.Errorf("only %d names with the result %d", results[e], e)
		}
	}
}

// TestGetOfAnyBytes has bytes of which many lead elsewhere.
func TestGetOfAnyBytes(t *testing.T) {
	d := dice(2)
	results := map[api.Errno]int{}
	for range 3000 {
		b := make([]byte, 1+d.roll(600))
		for i := range b {
			switch d.roll(6) {
			case 0:
				b[i] = byte(192 + d.roll(3))
			case 1, 2, 3:
				b[i] = byte(d.roll(6))
			default:
				b[i] = byte(d.roll(256))
			}
		}
		for range 20 {
			results[checkGetAsPlain(t, b, d.roll(len(b)+2)-1)]++
		}
	}
	for _, e := range []api.Errno{api.OK, api.ESHORT, api.EFORM} {
		if results[e] < 300 {
			t.Errorf("only %d names with the result %d", results[e], e)
		}
	}
}

// TestManyNames has names of which some are not good, as bytes and as texts.
func TestManyNames(t *testing.T) {
	d := dice(3)
	goods := 0
	for range 20000 {
		var l []string
		for range d.roll(9) {
			l = append(l, d.label(63))
		}
		switch d.roll(12) {
		case 0:
			l = append(l, d.label(63)+d.label(20))
		case 1:
			l = slices.Insert(l, d.roll(len(l)+1), "")
		}
		good := len(part(l...)) < 255 && !slices.ContainsFunc(l, func(label string) bool { return len(label) == 0 || len(label) > 63 })
		if !good {
			checkNotGood(t, l)
			if !slices.Contains(l, "") {
				checkNotParsed(t, name.Text(l))
			}
			continue
		}
		goods++
		checkGood(t, l)
		checkGet(t, whole(l...), 0, l, len(whole(l...)))
		var texts []string
		for _, label := range l {
			texts = append(texts, labelText(label))
		}
		if len(l) > 0 {
			checkBoth(t, l, strings.Join(texts, "."))
		}
	}
	if goods < 2000 || goods > 18000 {
		t.Errorf("%d good names", goods)
	}
}

// TestManyTexts changes single bytes of texts.
func TestManyTexts(t *testing.T) {
	d := dice(4)
	for range 20000 {
		var texts []string
		for range 1 + d.roll(4) {
			texts = append(texts, labelText(d.label(5)))
		}
		s := []byte(strings.Join(texts, "."))
		for range 3 {
			checkParseAsPlain(t, string(s))
			s[d.roll(len(s))] = ".\\012a 5"[d.roll(8)]
		}
	}
}
