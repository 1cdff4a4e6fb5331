package name_test

import (
	"fmt"
	"regexp"
	"slices"
	"strings"
	"testing"

	"gatehouse/api"
	"gatehouse/name"
)

// plainText is the text of a byte of a label.
func plainText(c byte) string {
	if strings.IndexByte("!\"#$%&'()*+,-/0123456789:;<=>?@ABCDEFGHIJKLMNOPQRSTUVWXYZ[]^_`abcdefghijklmnopqrstuvwxyz{|}~", c) >= 0 {
		return string([]byte{c})
	}
	return fmt.Sprintf("\\%03d", c)
}

// labelText is the text of a label.
func labelText(label string) string {
	s := ""
	for _, c := range []byte(label) {
		s += plainText(c)
	}
	return s
}

// form is that of the texts of names, whatever lengths their labels have.
var form = func() *regexp.Regexp {
	piece := `(?:[!-\-/-\[\]-~]|\\(?:0[0-2][0-9]|03[0-2]|046|092|12[7-9]|1[3-9][0-9]|2[0-4][0-9]|25[0-5]))+`
	return regexp.MustCompile(`^(?:\.|` + piece + `(?:\.` + piece + `)*)$`)
}()

var code = regexp.MustCompile(`\\...`)

// plainParse returns the labels of s, if it has the form of a text and they have the
// lengths that labels may have.
func plainParse(s string) ([]string, api.Errno) {
	if s == "." {
		return nil, api.OK
	}
	if !form.MatchString(s) {
		return nil, api.ESYNTAX
	}
	var l []string
	size := 1
	for _, part := range strings.Split(s, ".") {
		label := code.ReplaceAllStringFunc(part, func(digits string) string {
			return string([]byte{(digits[1]-'0')*100 + (digits[2]-'0')*10 + digits[3] - '0'})
		})
		l = append(l, label)
		size += 1 + len(label)
		if len(label) > 63 || size > 255 {
			return nil, api.ESYNTAX
		}
	}
	return l, api.OK
}

func checkText(t *testing.T, l []string, want string) {
	t.Helper()
	if s := name.Text(l); s != want {
		t.Errorf("P20.2: Text(%.300q): %.300q instead of %.300q", l, s, want)
	}
}

func checkParse(t *testing.T, s string, want []string) {
	t.Helper()
	if l, e := name.Parse(s); e != api.OK || !slices.Equal(l, want) {
		t.Errorf("P20.2: Parse(%.300q): %q, %d instead of %q", s, l, e, want)
	}
}

func checkNotParsed(t *testing.T, s string) {
	t.Helper()
	l, e := name.Parse(s)
	if e != api.ESYNTAX {
		t.Errorf("P20.2: Parse(%.300q): %d instead of %d", s, e, api.ESYNTAX)
	}
	if len(l) != 0 {
		t.Errorf("R2: Parse(%.300q) with the error %d: %q", s, e, l)
	}
}

// checkBoth asks Text and Parse for a good name.
func checkBoth(t *testing.T, l []string, s string) {
	t.Helper()
	checkText(t, l, s)
	checkParse(t, s, l)
}

// checkParseAsPlain holds Parse against plainParse, and Text against Parse.
func checkParseAsPlain(t *testing.T, s string) {
	t.Helper()
	l, e := name.Parse(s)
	want, wantE := plainParse(s)
	if e != wantE || !slices.Equal(l, want) {
		t.Errorf("P20.2: Parse(%.300q): %q, %d instead of %q, %d", s, l, e, want, wantE)
	}
	if e == api.OK && (name.Text(l) != s || !name.Good(l)) {
		t.Errorf("P20.2: Text of Parse(%.300q): %.300q, good: %v", s, name.Text(l), name.Good(l))
	}
}

func TestTextExampleOfTheDocument(t *testing.T) {
	checkBoth(t, names("a b", "c"), `a\032b.c`)
}

func TestTexts(t *testing.T) {
	for s, l := range map[string][]string{
		".": nil, "a": {"a"}, "a.bc": {"a", "bc"}, "www.Example.org": {"www", "Example", "org"}, "a-b_c.1": {"a-b_c", "1"}, "*.x": {"*", "x"},
		`\046`: {"."}, `\046.\046`: {".", "."}, `a\046b`: {"a.b"}, `\092`: {`\`}, `\092046`: {`\046`}, `\092\046`: {`\.`}, `\092\092`: {`\\`},
		`\000`: {"\x00"}, `\0000`: {"\x000"}, `\255`: {"\xff"}, `\2550`: {"\xff0"}, `\032`: {" "}, `\127`: {"\x7f"}, `\195\169`: {"é"}, `\239\191\189`: {"\ufffd"},
		`!"#$%&'()*+,-/0123456789:;<=>?@`: {`!"#$%&'()*+,-/0123456789:;<=>?@`}, "[]^_`{|}~": {"[]^_`{|}~"}, `a\009\010b.\013`: {"a\t\nb", "\r"},
	} {
		checkBoth(t, l, s)
	}
	checkText(t, []string{}, ".")
	checkText(t, nil, ".")
}

// TestTextsOfEachByte has all bytes at several places, before digits, too.
func TestTextsOfEachByte(t *testing.T) {
	for c := range 256 {
		s, text := string([]byte{byte(c)}), plainText(byte(c))
		checkBoth(t, names(s), text)
		checkBoth(t, names("a"+s+"0", s+s, s), "a"+text+"0."+text+text+"."+text)
		checkBoth(t, names(strings.Repeat(s, 63), s), strings.Repeat(text, 63)+"."+text)
		checkNotParsed(t, strings.Repeat(text, 64))
		if text != s && s != "." {
			checkNotParsed(t, s)
			checkNotParsed(t, "a"+s+"b")
			checkNotParsed(t, "a."+s)
		}
		for d := range 256 {
			two := string([]byte{byte(c), byte(d)})
			checkBoth(t, names(two), text+plainText(byte(d)))
			checkParseAsPlain(t, two)
			checkParseAsPlain(t, `\`+two)
			checkParseAsPlain(t, `\0`+two)
			checkParseAsPlain(t, `\1`+two)
			checkParseAsPlain(t, `\`+two+"0")
			checkParseAsPlain(t, "a"+two+".b")
		}
	}
}

// TestTextsOfLongNames has the longest names: of bytes with the shortest texts, and
// of such with the longest.
func TestTextsOfLongNames(t *testing.T) {
	for _, l := range longNames() {
		for _, c := range []byte{'a', '~', 0, '.', '\\', 255} {
			m := slices.Clone(l)
			for i, label := range m {
				m[i] = strings.Repeat(string([]byte{c}), len(label))
			}
			s := strings.ReplaceAll(strings.Join(l, "."), "x", plainText(c))
			checkBoth(t, m, s)
			checkNotParsed(t, s+"."+plainText(c))
			checkNotParsed(t, plainText(c)+"."+s)
			s = strings.ReplaceAll(strings.Join(longer(l), "."), "x", plainText(c))
			checkNotParsed(t, s)
			checkNotParsed(t, strings.ReplaceAll(s, "y", plainText(c)))
		}
	}
}

// TestTextsOfEachNumber has any numbers of labels of some lengths.
func TestTextsOfEachNumber(t *testing.T) {
	for _, label := range []string{"a", "\x00", ".", letters(2), letters(3), letters(62), letters(63), strings.Repeat("\xff", 63), letters(64), letters(255), letters(256)} {
		for n := 1; n < 300; n++ {
			l := slices.Repeat(names(label), n)
			s := strings.Join(slices.Repeat(names(labelText(label)), n), ".")
			checkText(t, l, s)
			if len(label) > 63 || n*(len(label)+1)+1 > 255 {
				checkNotParsed(t, s)
			} else {
				checkParse(t, s, l)
			}
		}
	}
}

// TestTextOfOtherLists has lists that are no good names.
func TestTextOfOtherLists(t *testing.T) {
	checkText(t, names(""), "")
	checkText(t, names("", ""), ".")
	checkText(t, names("", "", ""), "..")
	checkText(t, names("a", ""), "a.")
	checkText(t, names("", "a"), ".a")
	checkText(t, names("a", "", "b"), "a..b")
	long := strings.Repeat("a.\xff", 100000)
	checkText(t, names(long, "b"), strings.Repeat(`a\046\255`, 100000)+".b")
	checkText(t, slices.Repeat(names("a", ""), 1000), strings.Repeat("a..", 999)+"a.")
}

func TestParseRefuses(t *testing.T) {
	for _, s := range []string{
		"", " ", "..", "...", ".a", "a.", ".a.", "a..b", "a.b.", "a...b", `.\046`, `\046.`,
		`\`, `\1`, `\12`, `\04`, `a\`, `a.\`, `\.`, `\a`, `a\.b`, `\\`, `\ `, `\04x`, `\0x4`, `\x46`, `\+46`, `\-46`, `\ 46`, `\4 6`, `\46.`, `\046\`, `\092\`, `\0:0`, `\0/0`,
		`\256`, `\257`, `\299`, `\300`, `\302`, `\511`, `\512`, `\558`, `\999`, `\033`, `\045`, `\047`, `\065`, `\091`, `\093`, `\097`, `\126`, `\048`,
		"a b", "a\tb", "a\n", "a\x00", "\x7f", "\x80", "\xff", "é", "a.é", "\ufffd", "\u0661", "a\u3002b", `\٠٤٦`, `\00` + "\x00",
		letters(64), "a." + letters(64), letters(64) + ".a", letters(1000),
	} {
		checkNotParsed(t, s)
	}
}

// TestParseOfEachCode has all triples of digits, and of what stands beside them.
func TestParseOfEachCode(t *testing.T) {
	for _, a := range "/0123456789:" {
		for _, b := range "/0123456789:" {
			for _, c := range "/0123456789:" {
				digits := string([]rune{a, b, c})
				checkParseAsPlain(t, `\`+digits)
				checkParseAsPlain(t, `a.b\`+digits+`0\046`)
			}
		}
	}
}

// TestParseOfLongTexts has ones that are longer than any text of a name.
func TestParseOfLongTexts(t *testing.T) {
	for _, n := range []int{1000, 1003, 1004, 1019, 1020, 1021, 1 << 16, 1 << 22} {
		for _, s := range []string{".", "a", "a.", `\`, `\000`, `\046.`, " ", "\xff"} {
			checkNotParsed(t, strings.Repeat(s, n))
		}
		checkNotParsed(t, "a."+letters(n))
	}
}

// TestParseOfAllShortTexts has all texts of up to 6 of the bytes that tell most.
func TestParseOfAllShortTexts(t *testing.T) {
	bytesOf := []byte("a.\\0426 ")
	var try func(s []byte)
	try = func(s []byte) {
		checkParseAsPlain(t, string(s))
		if len(s) == 6 {
			return
		}
		for _, c := range bytesOf {
			try(append(s, c))
		}
	}
	try(nil)
}
