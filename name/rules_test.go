package name_test

import (
	"bytes"
	"slices"
	"strings"
	"testing"

	"gatehouse/api"
	"gatehouse/name"
)

// linked has the name www.example.org at 15, which goes on at 5 and then at 0.
const linked = "\x03org\x00\x07example\xc0\x00\x03www\xc0\x05"

// spare returns s in memory that goes on for 40 bytes behind its end.
func spare(s string) []byte {
	return append([]byte(s), bytes.Repeat([]byte{0xee}, 40)...)[:len(s)]
}

// spoil writes over the bytes of b and all its spare capacity.
func spoil(b []byte) {
	b = b[:cap(b)]
	for i := range b {
		b[i] ^= 0xff
	}
}

// spoilList does so to a list of labels.
func spoilList(l []string) {
	l = l[:cap(l)]
	for i := range l {
		l[i] = "spoilt"
	}
}

// checkWhole fails unless b, which spare has made, is as it was, as far as its
// memory goes.
func checkWhole(t *testing.T, what string, b []byte, was string) {
	t.Helper()
	if string(b) != was || !bytes.Equal(b[:len(b)+40][len(b):], bytes.Repeat([]byte{0xee}, 40)) {
		t.Errorf("R4: %s changes its argument: %q", what, b[:len(b)+40])
	}
}

func TestGetLeavesItsArgument(t *testing.T) {
	want := names("www", "example", "org")
	b := spare(linked)
	l, after, e := name.Get(b, 15)
	if e != api.OK || !slices.Equal(l, want) || after != 21 {
		t.Fatalf("P20.1: Get: %q, %d, %d", l, after, e)
	}
	checkWhole(t, "Get", b, linked)
	spoil(b)
	if !slices.Equal(l, want) {
		t.Errorf("R4: the result of Get shares its argument's memory: %q", l)
	}
	b = spare(linked)
	l, _, _ = name.Get(b, 15)
	m, _, _ := name.Get(b, 15)
	spoilList(l)
	checkWhole(t, "a change of the result of Get", b, linked)
	if !slices.Equal(m, want) {
		t.Errorf("R4: two results of Get share memory: %q", m)
	}
	for at := range len(linked) + 2 {
		b = spare(linked)
		name.Get(b, at-1)
		checkWhole(t, "Get", b, linked)
	}
}

func TestPutLeavesItsArguments(t *testing.T) {
	for _, n := range []int{0, 1, 2, 5, 100} {
		backing := names("www", "Example", "org", "behind", "more")
		l := backing[:3]
		b := spare(letters(n))
		want := letters(n) + "\x03www\x07Example\x03org\x00"
		got, e := name.Put(b, l)
		again, _ := name.Put(b, l)
		if e != api.OK || string(got) != want {
			t.Fatalf("P20.1: Put: %q, %d", got, e)
		}
		checkWhole(t, "Put", b, letters(n))
		if strings.Join(backing, ".") != "www.Example.org.behind.more" {
			t.Errorf("R4: Put changes its list: %q", backing)
		}
		spoil(got)
		checkWhole(t, "a change of the result of Put", b, letters(n))
		if string(again) != want {
			t.Errorf("R4: two results of Put share memory: %q", again)
		}
		spoil(b)
		spoilList(l)
		if string(again) != want {
			t.Errorf("R4: the result of Put shares its argument's memory: %q", again)
		}
		b = spare(letters(n))
		name.Put(b, names("a", ""))
		checkWhole(t, "a Put that fails", b, letters(n))
	}
}

// TestPutToAPiece has a list that is part of a longer one.
func TestPutToAPiece(t *testing.T) {
	b := []byte("abcdefghijkl")
	first, _ := name.Put(b[:2], names("x"))
	second, _ := name.Put(b[:2], names("yz"))
	third, _ := name.Put(b[:0], nil)
	if string(first) != "ab\x01x\x00" || string(second) != "ab\x02yz\x00" || string(third) != "\x00" || string(b) != "abcdefghijkl" {
		t.Errorf("R4: Put to a piece: %q, %q, %q, %q", first, second, third, b)
	}
}

func TestQuestionsLeaveTheirArguments(t *testing.T) {
	backing := names("WWW", "a b", "Org", "behind", "more")
	l := backing[:3]
	if !name.Good(l) || !name.Same(l, names("www", "A B", "oRG")) || !name.Same(names("www", "A B", "oRG"), l) {
		t.Errorf("P20.1: Good or Same: false")
	}
	checkText(t, l, `WWW.a\032b.Org`)
	if strings.Join(backing, ".") != "WWW.a b.Org.behind.more" {
		t.Errorf("R4: a question changes its list: %q", backing)
	}
	s := name.Text(l)
	spoilList(l)
	if s != `WWW.a\032b.Org` {
		t.Errorf("R4: the result of Text shares its argument's memory: %q", s)
	}
}

func TestParseReturnsNewMemory(t *testing.T) {
	for _, s := range []string{".", "a", "a.bc", `a\032b.c`} {
		l, _ := name.Parse(s)
		m, _ := name.Parse(s)
		spoilList(l)
		checkParse(t, s, m)
		if name.Text(m) != s {
			t.Errorf("R4: two results of Parse share memory: %q", m)
		}
	}
}

// TestResultsDependOnArgumentsAlone has calls that succeed and fail by turns.
func TestResultsDependOnArgumentsAlone(t *testing.T) {
	for range 3 {
		checkGet(t, linked, 15, names("www", "example", "org"), 21)
		checkNotGet(t, linked, 21, api.ESHORT)
		checkNotGet(t, "\xc0\x00", 0, api.EFORM)
		checkGet(t, linked, 0, names("org"), 5)
		checkNotGet(t, linked, 4+len(linked), api.ESHORT)
		checkPut(t, "q", names("a"))
		checkNotPut(t, "q", names("a", ""))
		checkPut(t, "q", nil)
		checkBoth(t, names("a b"), `a\032b`)
		checkNotParsed(t, `a\03`)
		checkBoth(t, nil, ".")
		checkSame(t, names("a"), names("A"), true)
		checkSame(t, names("a"), names("B"), false)
	}
}

// TestCallsAtTheSameTime has calls that share their arguments.
func TestCallsAtTheSameTime(t *testing.T) {
	b, l := []byte(linked), names("www", "example", "org")
	for range 8 {
		t.Run("calls", func(t *testing.T) {
			t.Parallel()
			for range 200 {
				if got, after, e := name.Get(b, 15); e != api.OK || after != 21 || !slices.Equal(got, l) {
					t.Errorf("P20.1: Get: %q, %d, %d", got, after, e)
				}
				checkPut(t, "", l)
				checkBoth(t, l, "www.example.org")
				checkSame(t, l, l, true)
			}
		})
	}
}
