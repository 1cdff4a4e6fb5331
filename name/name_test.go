package name_test

import (
	"slices"
	"strings"
	"testing"

	"gatehouse/api"
	"gatehouse/name"
)

// names returns its arguments.
func names(l ...string) []string { return l }

// letters returns a label of n bytes.
func letters(n int) string { return strings.Repeat("x", n) }

// split returns the labels of s, which stand between its points, as they are.
func split(s string) []string {
	if s == "" {
		return nil
	}
	return strings.Split(s, ".")
}

// part returns the length and the bytes of each label.
func part(l ...string) string {
	var b strings.Builder
	for _, label := range l {
		b.WriteByte(byte(len(label)))
		b.WriteString(label)
	}
	return b.String()
}

// whole returns the encoding of l.
func whole(l ...string) string { return part(l...) + "\x00" }

// longNames are all that have as many bytes as a name may have, in some shapes.
func longNames() [][]string {
	a := strings.Split(letters(127), "")
	return [][]string{
		{letters(63), letters(63), letters(63), letters(61)},
		{letters(61), letters(63), letters(63), letters(63)},
		{letters(63), letters(1), letters(62), letters(63), letters(60)},
		a,
		append(slices.Clone(a[:95]), letters(63)),
		append([]string{letters(63)}, a[:95]...),
		{letters(49), letters(49), letters(49), letters(49), letters(53)},
	}
}

// longer returns l with one byte more in its last label that has room.
func longer(l []string) []string {
	l = slices.Clone(l)
	for i := len(l) - 1; ; i-- {
		if len(l[i]) < 63 {
			l[i] += "y"
			return l
		}
	}
}

func checkPut(t *testing.T, b string, l []string) {
	t.Helper()
	got, e := name.Put([]byte(b), l)
	if want := b + whole(l...); e != api.OK || string(got) != want {
		t.Errorf("P20.1: Put(%q, %q): %q, %d instead of %q", b, l, got, e, want)
	}
}

func checkNotPut(t *testing.T, b string, l []string) {
	t.Helper()
	got, e := name.Put([]byte(b), l)
	if e != api.EARG {
		t.Errorf("P20.1: Put(%q, %.300q): %d instead of %d", b, l, e, api.EARG)
	}
	if len(got) != 0 {
		t.Errorf("R2: Put(%q, %.300q) with the error %d: %q", b, l, e, got)
	}
}

// checkGood asks Good and Put.
func checkGood(t *testing.T, l []string) {
	t.Helper()
	if !name.Good(l) {
		t.Errorf("P20.1: Good(%q): false", l)
	}
	checkPut(t, "", l)
	checkPut(t, "\x03abc\x00\xc0", l)
}

func checkNotGood(t *testing.T, l []string) {
	t.Helper()
	if name.Good(l) {
		t.Errorf("P20.1: Good(%.300q): true", l)
	}
	checkNotPut(t, "", l)
	checkNotPut(t, "\x03abc\x00\xc0", l)
}

func checkSame(t *testing.T, a, b []string, want bool) {
	t.Helper()
	if name.Same(a, b) != want || name.Same(b, a) != want {
		t.Errorf("P20.1: Same(%.300q, %.300q): %v, %v", a, b, name.Same(a, b), name.Same(b, a))
	}
}

func TestPut(t *testing.T) {
	for _, l := range [][]string{nil, {}, {"a"}, {"a", "bc"}, {"www", "Example", "org"}, {"a", "a", "a"}, {"."}, {"a.b", "\\"}, {"\x00\xc0\xff", "\x00"}} {
		for _, b := range []string{"", "q", "\x00", "\x01a\x00", letters(1000)} {
			checkPut(t, b, l)
		}
	}
	if b, e := name.Put(nil, nil); e != api.OK || string(b) != "\x00" {
		t.Errorf("P20.1: Put(nil, nil): %q, %d", b, e)
	}
}

// TestPutOfEachByte has all bytes at all places of a label.
func TestPutOfEachByte(t *testing.T) {
	for c := range 256 {
		s := string([]byte{byte(c)})
		for n := range 63 {
			checkGood(t, names("w", letters(n)+s+letters(62-n)))
		}
		checkGood(t, names(s, "w", s+s))
	}
}

// TestGoodOfEachLength has labels of each length: alone, and as one of several.
func TestGoodOfEachLength(t *testing.T) {
	for n := range 1000 {
		check := checkNotGood
		if n >= 1 && n <= 63 {
			check = checkGood
		}
		for _, l := range [][]string{{letters(n)}, {letters(n), "a"}, {"a", letters(n)}, {"a", letters(n), "b", letters(n)}} {
			check(t, l)
		}
	}
	for _, n := range []int{1 << 14, 1<<16 + 1, 1<<16 + 63, 1 << 24} {
		checkNotGood(t, names(letters(n)))
		checkNotGood(t, names("a", letters(n), "b"))
	}
}

// TestGoodOfEachNumber has any number of equal labels, as many as have room.
func TestGoodOfEachNumber(t *testing.T) {
	for size := 1; size <= 63; size++ {
		most := 254 / (size + 1)
		for n := range most + 300 {
			check := checkNotGood
			if n <= most {
				check = checkGood
			}
			check(t, slices.Repeat(names(letters(size)), n))
		}
	}
	for _, n := range []int{1 << 15, 1<<15 + 1, 1 << 16, 1<<20 + 1} {
		checkNotGood(t, slices.Repeat(names("a"), n))
	}
}

func TestGoodAtTheLimit(t *testing.T) {
	for _, l := range longNames() {
		checkGood(t, l)
		checkNotGood(t, longer(l))
		checkNotGood(t, append(slices.Clone(l), "y"))
		checkNotGood(t, append([]string{"y"}, l...))
		for i := range l {
			checkGood(t, slices.Delete(slices.Clone(l), i, i+1))
		}
	}
}

// TestGoodOfEmptyLabels has an empty label at each place of names that have room
// for it.
func TestGoodOfEmptyLabels(t *testing.T) {
	for n := range 130 {
		l := slices.Repeat(names("a"), n)
		for i := range n + 1 {
			checkNotGood(t, slices.Insert(slices.Clone(l), i, ""))
		}
	}
	checkNotGood(t, names(""))
	checkNotGood(t, names("", ""))
}

// TestSameOfEachPair has all pairs of bytes, alone and within labels.
func TestSameOfEachPair(t *testing.T) {
	for c := range 256 {
		for d := range 256 {
			want := c == d || c >= 'A' && c <= 'Z' && d == c+32 || d >= 'A' && d <= 'Z' && c == d+32
			s, u := string([]byte{byte(c)}), string([]byte{byte(d)})
			checkSame(t, names(s), names(u), want)
			checkSame(t, names("a", "xY"+s+"z"), names("A", "xy"+u+"Z"), want)
			checkSame(t, names(s, "b"), names(u, "B"), want)
		}
	}
}

func TestSame(t *testing.T) {
	for _, c := range []struct {
		a, b string
		want bool
	}{
		{"", "", true}, {"a", "a", true}, {"www.example.org", "WWW.Example.oRG", true}, {"AZaz", "azAZ", true},
		{"a", "", false}, {"a", "b", false}, {"a.b", "b.a", false}, {"a.b", "a", false}, {"a.b", "b", false}, {"a.b.c", "a.b.d", false}, {"a.b.c", "d.b.c", false},
		{"ab", "a.b", false}, {"a.bc", "ab.c", false}, {"ab", "a", false}, {"ab", "abc", false}, {"ab.c", "a.c", false}, {"a.b", "a.bb", false}, {"ba", "a", false},
		{"[", "{", false}, {"@", "`", false}, {"Z[", "z{", false}, {"1", "Q", false}, {"\x00", " ", false},
		{"É", "é", false}, {"É", "É", true}, {"\xc4", "\xe4", false}, {"\u212a", "k", false}, {"\u212a", "K", false}, {"\u017f", "s", false}, {"\u017f", "S", false}, {"\xff", "\xfe", false}, {"\xff", "\ufffd", false},
	} {
		checkSame(t, split(c.a), split(c.b), c.want)
	}
	checkSame(t, nil, []string{}, true)
	checkSame(t, names("a.b"), names("a", "b"), false)
	checkSame(t, names("a\x01b"), names("a", "b"), false)
}

// TestSameOfOtherLists has lists that are no good names.
func TestSameOfOtherLists(t *testing.T) {
	checkSame(t, names(""), names(""), true)
	checkSame(t, names(""), nil, false)
	checkSame(t, names("", ""), names(""), false)
	checkSame(t, names("", "a"), names("a", ""), false)
	checkSame(t, names("a", ""), names("A", ""), true)
	checkSame(t, names("a", ""), names("a"), false)
	long := letters(70000)
	checkSame(t, names("b", long), names("B", strings.ToUpper(long)), true)
	checkSame(t, names("b", long), names("B", long+"x"), false)
	checkSame(t, names("b", long), names("B", long[1:]+"y"), false)
	many := slices.Repeat(names("a"), 1000)
	checkSame(t, many, slices.Repeat(names("A"), 1000), true)
	checkSame(t, many, many[1:], false)
}

// TestSameOfLongNames changes one byte after the other.
func TestSameOfLongNames(t *testing.T) {
	for _, l := range longNames() {
		checkSame(t, l, strings.Split(strings.ToUpper(strings.Join(l, ".")), "."), true)
		for i, label := range l {
			for _, at := range []int{0, len(label) / 2, len(label) - 1} {
				m := slices.Clone(l)
				m[i] = label[:at] + "Y" + label[at+1:]
				checkSame(t, l, m, false)
			}
			checkSame(t, l, slices.Delete(slices.Clone(l), i, i+1), false)
		}
	}
}
