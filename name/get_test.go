package name_test

import (
	"math"
	"slices"
	"strings"
	"testing"

	"gatehouse/api"
	"gatehouse/name"
)

// lead returns a pointer to the offset to.
func lead(to int) string { return string([]byte{192 | byte(to>>8), byte(to)}) }

// wrongOffsets are those of no byte of n.
func wrongOffsets(n int) []int {
	return []int{-1, -2, -n, -n - 1, n, n + 1, n + 2, 2 * n, 1 << 14, 1<<14 | n, 1 << 16, 1<<32 | 1, -1 << 32, math.MaxInt32, math.MinInt32, math.MaxInt - 1, math.MaxInt, math.MinInt, math.MinInt + 1}
}

func checkGet(t *testing.T, b string, at int, want []string, next int) {
	t.Helper()
	l, after, e := name.Get([]byte(b), at)
	if e != api.OK || !slices.Equal(l, want) || after != next {
		t.Errorf("P20.1: Get(%.300q, %d): %q, %d, %d instead of %q, %d", b, at, l, after, e, want, next)
	}
}

func checkNotGet(t *testing.T, b string, at int, want api.Errno) {
	t.Helper()
	l, after, e := name.Get([]byte(b), at)
	if e != want {
		t.Errorf("P20.1: Get(%.300q, %d): %q, %d, %d instead of the error %d", b, at, l, after, e, want)
	}
	if e != api.OK && (len(l) != 0 || after != 0) {
		t.Errorf("R2: Get(%.300q, %d) with the error %d: %q, %d", b, at, e, l, after)
	}
}

func TestGetExampleOfTheChapter(t *testing.T) {
	checkGet(t, "\x01a\x00", 0, names("a"), 3)
}

// TestGet has each name at several places, with other bytes around it.
func TestGet(t *testing.T) {
	for _, l := range append(longNames(), nil, names("a"), names("a", "bc"), names("www", "Example", "org"), names("."), names("\x00\xc0\x0c", "\xff\xff", "A")) {
		b := whole(l...)
		for _, before := range []string{"", "\x00", "\x01", "\x40", "\xc0", "\x03ab", letters(1000), letters(1 << 14), letters(1<<14 + 1), letters(1 << 17)} {
			for _, behind := range []string{"", "\x00", "\x01a\x00", "\x40", "\xc0\x00", "\xff"} {
				checkGet(t, before+b+behind, len(before), l, len(before)+len(b))
			}
		}
	}
}

// TestGetOfEachLength has labels of all lengths, and what is none.
func TestGetOfEachLength(t *testing.T) {
	behind := letters(1000)
	for n := 1; n <= 63; n++ {
		checkGet(t, whole(letters(n)), 0, names(letters(n)), n+2)
		checkGet(t, whole("b", letters(n), "c"), 0, names("b", letters(n), "c"), n+6)
		checkNotGet(t, "\x01b"+string([]byte{byte(n)})+letters(n-1), 0, api.ESHORT)
		checkNotGet(t, part("b", letters(n)), 0, api.ESHORT)
	}
	for n := 64; n < 192; n++ {
		s := string([]byte{byte(n)})
		for _, b := range []string{s, s + "\x00", s + behind, s + letters(n) + "\x00"} {
			checkNotGet(t, b, 0, api.EFORM)
			checkNotGet(t, "\x01a"+b, 0, api.EFORM)
			checkNotGet(t, b+"\xc0\x00", len(b), api.EFORM)
		}
	}
	for n := 192; n < 256; n++ {
		s := string([]byte{byte(n)})
		checkNotGet(t, s, 0, api.ESHORT)
		checkNotGet(t, "\x01a"+s, 0, api.ESHORT)
		checkNotGet(t, s+"\xc0\x00", 1, api.EFORM)
		checkNotGet(t, s+s, 0, api.EFORM)
	}
}

// TestGetOfEachByte has all bytes in labels, where none of them means anything.
func TestGetOfEachByte(t *testing.T) {
	for c := range 256 {
		s := string([]byte{byte(c)})
		for _, l := range [][]string{{s}, {s, s}, {"a", s + s + s, "b"}, {letters(62) + s}, {s + letters(62)}, {s + "a", letters(30) + s + letters(30)}} {
			checkGet(t, whole(l...), 0, l, len(whole(l...)))
			checkGet(t, whole(l...)+lead(0), len(whole(l...)), l, len(whole(l...))+2)
		}
	}
}

func TestGetOfWrongOffsets(t *testing.T) {
	for _, b := range []string{"", "\x00", "\x01a\x00", "\x40", "\xc0\x00", whole(longNames()[0]...), strings.Repeat("\x00", 300)} {
		for _, at := range wrongOffsets(len(b)) {
			if at < 0 || at >= len(b) {
				checkNotGet(t, b, at, api.ESHORT)
			}
		}
	}
	if _, _, e := name.Get(nil, 0); e != api.ESHORT {
		t.Errorf("P20.1: Get(nil, 0): %d", e)
	}
}

// TestGetOfBeginnings has all beginnings of an encoding: a byte is missing.
func TestGetOfBeginnings(t *testing.T) {
	for _, l := range append(longNames(), nil, names("a"), names("a", "bc"), names("www", "example", "org")) {
		b := whole(l...)
		for n := range len(b) {
			checkNotGet(t, b[:n], 0, api.ESHORT)
			checkNotGet(t, "\x01z\x00"+b[:n], 3, api.ESHORT)
		}
		b = "\x01z\x00" + part(l...) + lead(0)
		for n := 3; n < len(b); n++ {
			checkNotGet(t, b[:n], 3, api.ESHORT)
		}
	}
}

// TestGetSeesTheEndOfB has bytes behind the end in the memory of b.
func TestGetSeesTheEndOfB(t *testing.T) {
	for _, s := range []string{"\x00", "\x01a\x00", "\x01a\x02bc\x00", "\x02ab\x01c\x00"} {
		b := []byte(s)
		for n := range b {
			if l, after, e := name.Get(b[:n], 0); e != api.ESHORT || len(l) != 0 || after != 0 {
				t.Errorf("P20.1: Get(%q, 0) with %q behind it: %q, %d, %d", b[:n], b[n:], l, after, e)
			}
		}
	}
	b := []byte("\x00\xc0\x00")
	if l, after, e := name.Get(b[:2], 1); e != api.ESHORT || len(l) != 0 || after != 0 {
		t.Errorf("P20.1: Get of a pointer with a byte behind b: %q, %d, %d", l, after, e)
	}
}

// TestGetOfEachPointer leads to all offsets from behind them.
func TestGetOfEachPointer(t *testing.T) {
	from := 1<<14 + 20
	for to := range 1 << 14 {
		b := []byte(strings.Repeat("\x00", from) + lead(to))
		copy(b[to:], "\x02hi")
		l, after, e := name.Get(b, from)
		if e != api.OK || !slices.Equal(l, names("hi")) || after != from+2 {
			t.Fatalf("P20.1: a pointer to %d: %q, %d, %d", to, l, after, e)
		}
	}
}

// TestGetOfPointersForward has pointers that lead to their own first byte or
// behind it, wherever the name begins, and ones that lead to the byte before.
func TestGetOfPointersForward(t *testing.T) {
	for _, n := range []int{0, 1, 2, 3, 62, 63, 100, 250, 255, 256, 257, 1000, 1<<14 - 4, 1<<14 - 3, 1<<14 - 2, 1<<14 - 1} {
		before := strings.Repeat("\x00", n)
		for _, to := range []int{n, n + 1, n + 2, n + 3, n + 4, n + 256, 1<<14 - 1} {
			if to < n || to >= 1<<14 {
				continue
			}
			for _, behind := range []string{"", "\x00", "\x00\x00\x00", "\x01a\x00", strings.Repeat("\x00", 1<<14)} {
				checkNotGet(t, before+lead(to)+behind, n, api.EFORM)
			}
			if n >= 3 {
				checkNotGet(t, before[3:]+"\x02zz"+lead(to)+"\x00\x00", n-3, api.EFORM)
			}
		}
		if n >= 1 {
			checkGet(t, before+lead(n-1), n, nil, n+2)
			checkGet(t, before+"\x02zz"+lead(n-1), n, names("zz"), n+5)
		}
	}
}

// TestGetOfPointersIntoLabels has pointers that lead between their own first byte
// and the beginning of the name.
func TestGetOfPointersIntoLabels(t *testing.T) {
	checkGet(t, "\x03\x01z\x00\xc0\x01", 0, names("\x01z\x00", "z"), 6)
	checkGet(t, "\x03\x01z\x00\xc0\x03", 0, names("\x01z\x00"), 6)
	checkGet(t, "\x04\x02\xc0\x00\x00\xc0\x01", 0, names("\x02\xc0\x00\x00", "\xc0\x00"), 7)
	// from behind, and then to a place that is nearer than the one before
	checkGet(t, "\x03\x01z\x00\xc0\x01\xc0\x00", 6, names("\x01z\x00", "z"), 8)
	checkGet(t, "\x01b\xc0\x06\x00\x00\x00\xc0\x04", 7, nil, 9)
	checkNotGet(t, "\x01b\xc0\x06\x00\x00\x00\xc0\x00", 7, api.EFORM)
	checkNotGet(t, "\x03\x01z\x40\xc0\x03", 0, api.EFORM)
	checkNotGet(t, "\x03\x01z\x3f\xc0\x03", 0, api.ESHORT)
}

// TestGetTellsWhereTheNameEnds has labels around pointers, whose ends do not count.
func TestGetTellsWhereTheNameEnds(t *testing.T) {
	b := "\x03org\x00" + part("example") + lead(0) + part("www", "ftp") + lead(5) + lead(15) + "\x01q" + lead(23) + "\x00"
	checkGet(t, b, 0, names("org"), 5)
	checkGet(t, b, 4, nil, 5)
	checkGet(t, b, 5, names("example", "org"), 15)
	checkGet(t, b, 13, names("org"), 15)
	checkGet(t, b, 15, names("www", "ftp", "example", "org"), 25)
	checkGet(t, b, 19, names("ftp", "example", "org"), 25)
	checkGet(t, b, 25, names("www", "ftp", "example", "org"), 27)
	checkGet(t, b, 27, names("q", "example", "org"), 31)
	checkGet(t, b, 31, nil, 32)
	checkNotGet(t, b, 32, api.ESHORT)
}

// TestGetOfLoops has pointers that lead to what leads to them again.
func TestGetOfLoops(t *testing.T) {
	for n := 1; n <= 63; n++ {
		b := part(letters(n)) + lead(0)
		checkNotGet(t, b, 0, api.EFORM)
		checkNotGet(t, b+lead(n+1), len(b), api.EFORM)
	}
	checkNotGet(t, "\x01a"+lead(5)+"\x00"+"\x01b"+lead(0), 5, api.EFORM)
	checkNotGet(t, "\x00\x01a\x01b"+lead(1), 1, api.EFORM)
	checkNotGet(t, "\x00\x01a\x01b"+lead(3), 1, api.EFORM)
}

// chain returns l, then n pointers of which each leads to the one before, where
// each stands behind the labels between, and the offset where the last part begins.
func chain(n int, l []string, between ...string) (string, int) {
	b, at := whole(l...), 0
	for range n {
		to := at
		at = len(b)
		b += part(between...) + lead(to)
	}
	return b, at
}

func TestGetOfManyPointers(t *testing.T) {
	for n := range 200 {
		for _, l := range [][]string{nil, {"a"}, {"ab", "c"}} {
			b, at := chain(n, l)
			if n > 64 {
				checkNotGet(t, b, at, api.EFORM)
				checkNotGet(t, b+"\x01d"+lead(at), len(b), api.EFORM)
				continue
			}
			next := at + 2
			if n == 0 {
				next = len(b)
			}
			checkGet(t, b, at, l, next)
			more := b + "\x01d" + lead(at) + "\x00"
			if n == 64 {
				checkNotGet(t, more, len(b), api.EFORM)
				continue
			}
			checkGet(t, more, len(b), append(names("d"), l...), len(b)+4)
		}
	}
}

// TestGetOfPointersAndLabels has a label before each pointer: 64 pointers fit in if
// the labels are short, and no label counts for the pointers.
func TestGetOfPointersAndLabels(t *testing.T) {
	for n := 1; n < 130; n++ {
		b, at := chain(n, nil, "a")
		if n <= 64 {
			checkGet(t, b, at, slices.Repeat(names("a"), n), at+4)
		} else {
			checkNotGet(t, b, at, api.EFORM)
		}
		b, at = chain(n, nil, "ab", "c") // with 5 bytes of each encoding
		if n <= 50 {
			checkGet(t, b, at, slices.Repeat(names("ab", "c"), n), at+7)
		} else {
			checkNotGet(t, b, at, api.EFORM)
		}
	}
}

// TestGetBehindManyPointers has three labels of 63 bytes, whose bytes are pointers
// that lead to them, and what stands behind those labels.
func TestGetBehindManyPointers(t *testing.T) {
	var l []string
	places := []int{0} // of what the first pointer leads to, and of the pointers
	for block := range 3 {
		label := ""
		for i := range 31 {
			label += lead(places[len(places)-1])
			places = append(places, 64*block+1+2*i)
		}
		l = append(l, label+"\x00")
	}
	b := part(l...)
	checkGet(t, b+"\x00", places[63], l, places[63]+2)
	checkGet(t, b+"\x00", places[64], l, places[64]+2)
	checkNotGet(t, b+"\x00", places[65], api.EFORM)
	for _, behind := range []string{"", "\xc0", "\xff", "\x01", "\x02a", "\x3f" + letters(62)} {
		checkNotGet(t, b+behind, places[63], api.ESHORT)
		checkNotGet(t, b+behind, places[64], api.ESHORT)
		checkNotGet(t, b+behind, places[65], api.EFORM)
	}
	for _, behind := range []string{"\x40", "\xbf", "\xc0\x00", "\xc0\xc0", "\x3f" + letters(63)} {
		checkNotGet(t, b+behind, places[63], api.EFORM)
		checkNotGet(t, b+behind, places[64], api.EFORM)
	}
	// behind the labels, one pointer more leads to an end
	checkGet(t, b+lead(63), places[63], l, places[63]+2)
	checkNotGet(t, b+lead(63), places[64], api.EFORM)
}

// TestGetAtTheLimit has the longest names, as a whole and with pointers between
// their labels, and ones that are longer.
func TestGetAtTheLimit(t *testing.T) {
	for _, l := range longNames() {
		b := whole(l...)
		checkGet(t, b, 0, l, len(b))
		for i := range l {
			rest := whole(l[i:]...)
			checkGet(t, rest+part(l[:i]...)+lead(0), len(rest), l, len(rest)+len(part(l[:i]...))+2)
			rest = whole(longer(l)[i:]...)
			checkNotGet(t, rest+part(longer(l)[:i]...)+lead(0), len(rest), api.EFORM)
		}
		for _, m := range [][]string{longer(l), append(slices.Clone(l), "y"), append(names("y"), l...)} {
			checkNotGet(t, whole(m...), 0, api.EFORM)
			checkNotGet(t, "\x01z\x00"+whole(m...)+"\x00", 3, api.EFORM)
			checkNotGet(t, "\x00"+part(m...)+lead(0), 1, api.EFORM)
		}
	}
	for n := range 1000 {
		l := slices.Repeat(names("a"), n)
		if n <= 127 {
			checkGet(t, whole(l...), 0, l, 2*n+1)
			continue
		}
		checkNotGet(t, whole(l...), 0, api.EFORM)
	}
}

// TestGetOfTooManyBytes has what is wrong behind the longest name and within the
// label that is too much: this label counts once it is complete.
func TestGetOfTooManyBytes(t *testing.T) {
	for _, l := range longNames() {
		b := part(l...)
		for _, behind := range []string{"", "\xc0", "\x01", "\x02y", "\x3f" + letters(62)} {
			checkNotGet(t, b+behind, 0, api.ESHORT)
		}
		for _, behind := range []string{"\x01y", "\x01y\x01", "\x01y\xc0", "\x01y\x02y", "\x01y\x40", "\x3f" + letters(63), "\x40", "\xc1\xff"} {
			checkNotGet(t, b+behind, 0, api.EFORM)
		}
		short := part(l[:len(l)-1]...)
		last := len(longer(l)[len(l)-1])
		if last > 63 || last <= len(l[len(l)-1]) {
			continue
		}
		tooLong := string([]byte{byte(last)}) + letters(last)
		checkNotGet(t, short+tooLong[:last], 0, api.ESHORT)
		checkNotGet(t, short+tooLong, 0, api.EFORM)
	}
}

// TestGetAmongManyBytes has names before and behind very many others.
func TestGetAmongManyBytes(t *testing.T) {
	n := 1 << 22
	b := "\x01a\x00" + letters(n) + "\x01b" + lead(0) + "\x02cd\x00"
	checkGet(t, b, 0, names("a"), 3)
	checkGet(t, b, n+3, names("b", "a"), n+7)
	checkGet(t, b, n+7, names("cd"), n+11)
	checkNotGet(t, b, n+11, api.ESHORT)
}
