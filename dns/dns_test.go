package dns_test

import (
	"bytes"
	"fmt"
	"math"
	"slices"
	"strings"
	"testing"

	"gatehouse/api"
	"gatehouse/dns"
)

// names returns its arguments.
func names(l ...string) []string { return l }

// letters returns a label of n bytes.
func letters(n int) string { return strings.Repeat("x", n) }

// soa are the 20 bytes behind the names in the Data of type 6.
const soa = "\x00\xc0\x0c\x01abcdefghijklmnop"

// pair returns the two bytes of v.
func pair(v int) string { return string([]byte{byte(v >> 8), byte(v)}) }

// quad returns the four bytes of v.
func quad(v uint32) string { return pair(int(v>>16)) + pair(int(v&0xffff)) }

// lead returns a pointer to the offset to.
func lead(to int) string { return pair(3<<14 | to) }

// whole returns the encoding of l.
func whole(l ...string) string {
	var b strings.Builder
	for _, label := range l {
		b.WriteByte(byte(len(label)))
		b.WriteString(label)
	}
	return b.String() + "\x00"
}

// head returns the first bytes of a message with these numbers of questions and
// records.
func head(asked, answers, owners, more int) string {
	return "\x12\x34\x81\x80" + pair(asked) + pair(answers) + pair(owners) + pair(more)
}

// asks returns a question for the bytes of a name.
func asks(name string, typ int) string { return name + pair(typ) + "\x00\x01" }

// tells returns a record for the bytes of a name, with these bytes as its Data.
func tells(name string, typ int, data string) string {
	return asks(name, typ) + quad(60) + pair(len(data)) + data
}

func question(typ int, labels ...string) dns.Question {
	return dns.Question{Name: labels, Type: typ, Class: 1}
}

func record(typ int, data string, labels ...string) dns.Record {
	return dns.Record{Name: labels, Type: typ, Class: 1, Ttl: 60, Data: []byte(data)}
}

func questions(l ...dns.Question) []dns.Question { return l }

func records(l ...dns.Record) []dns.Record { return l }

// usual is a message with something of everything.
func usual() dns.Message {
	return dns.Message{
		ID: 0x1234, Flags: 0x8180,
		Asked:   questions(question(1, "www", "Example", "org"), question(255)),
		Answers: records(record(5, "\x04host\x07example\x03org\x00", "www", "Example", "org"), record(1, "\x0a\x00\x00\x07", "host", "example", "org")),
		Owners:  records(record(6, "\x02ns\x00\x05admin\x02ns\x00"+soa, "org"), record(2, "\x00")),
		More:    records(record(15, "\x00\x0a\x01m\x00", "\x00.\xff"), record(12, "\x01p\x00", "7", "in-addr"), record(41, "")),
	}
}

// usualBytes is its encoding.
const usualBytes = "\x12\x34\x81\x80\x00\x02\x00\x02\x00\x02\x00\x03" +
	"\x03www\x07Example\x03org\x00\x00\x01\x00\x01" +
	"\x00\x00\xff\x00\x01" +
	"\x03www\x07Example\x03org\x00\x00\x05\x00\x01\x00\x00\x00\x3c\x00\x12\x04host\x07example\x03org\x00" +
	"\x04host\x07example\x03org\x00\x00\x01\x00\x01\x00\x00\x00\x3c\x00\x04\x0a\x00\x00\x07" +
	"\x03org\x00\x00\x06\x00\x01\x00\x00\x00\x3c\x00\x22\x02ns\x00\x05admin\x02ns\x00" + soa +
	"\x00\x00\x02\x00\x01\x00\x00\x00\x3c\x00\x01\x00" +
	"\x03\x00.\xff\x00\x00\x0f\x00\x01\x00\x00\x00\x3c\x00\x05\x00\x0a\x01m\x00" +
	"\x017\x07in-addr\x00\x00\x0c\x00\x01\x00\x00\x00\x3c\x00\x03\x01p\x00" +
	"\x00\x00\x29\x00\x01\x00\x00\x00\x3c\x00\x00"

// linked is a message whose names go on in former ones, and unlinked its meaning.
const linked = "\x12\x34\x81\x80\x00\x02\x00\x02\x00\x02\x00\x03" +
	"\x03www\x07Example\x03org\x00\x00\x01\x00\x01" + // 12: www, 16: Example, 24: org, 28: the root
	"\xc0\x1c\x00\xff\x00\x01" +
	"\xc0\x0c\x00\x05\x00\x01\x00\x00\x00\x3c\x00\x07\x04host\xc0\x10" + // 51: host
	"\xc0\x33\x00\x01\x00\x01\x00\x00\x00\x3c\x00\x04\x0a\x00\x00\x07" +
	"\xc0\x18\x00\x06\x00\x01\x00\x00\x00\x3c\x00\x20\x02ns\x00\x05admin\xc0\x56" + soa + // 86: ns
	"\x00\x00\x02\x00\x01\x00\x00\x00\x3c\x00\x02\xc0\x59" + // 89: the root
	"\xc0\x33\x00\x0f\x00\x01\x00\x00\x00\x3c\x00\x04\x00\x0a\xc0\x0c" +
	"\xc0\x56\x00\x0c\x00\x01\x00\x00\x00\x3c\x00\x04\x01p\xc0\x18" +
	"\xc0\x1c\x00\x10\x00\x01\x00\x00\x00\x3c\x00\x02\xc0\x0c"

func unlinked() dns.Message {
	return dns.Message{
		ID: 0x1234, Flags: 0x8180,
		Asked:   questions(question(1, "www", "Example", "org"), question(255)),
		Answers: records(record(5, "\x04host\x07Example\x03org\x00", "www", "Example", "org"), record(1, "\x0a\x00\x00\x07", "host", "Example", "org")),
		Owners:  records(record(6, "\x02ns\x00\x05admin\x02ns\x00"+soa, "org"), record(2, "\x00")),
		More:    records(record(15, "\x00\x0a\x03www\x07Example\x03org\x00", "host", "Example", "org"), record(12, "\x01p\x03org\x00", "ns"), record(16, "\xc0\x0c")),
	}
}

func sameQuestion(a, b dns.Question) bool {
	return slices.Equal(a.Name, b.Name) && a.Type == b.Type && a.Class == b.Class
}

func sameRecord(a, b dns.Record) bool {
	return slices.Equal(a.Name, b.Name) && a.Type == b.Type && a.Class == b.Class && a.Ttl == b.Ttl && bytes.Equal(a.Data, b.Data)
}

// same takes nil lists and empty ones for the same.
func same(a, b dns.Message) bool {
	return a.ID == b.ID && a.Flags == b.Flags && slices.EqualFunc(a.Asked, b.Asked, sameQuestion) &&
		slices.EqualFunc(a.Answers, b.Answers, sameRecord) && slices.EqualFunc(a.Owners, b.Owners, sameRecord) && slices.EqualFunc(a.More, b.More, sameRecord)
}

// show returns the beginning of the text of m.
func show(m dns.Message) string {
	s := fmt.Sprintf("%+v", m)
	return s[:min(len(s), 500)]
}

func checkGet(t *testing.T, b string, want dns.Message) {
	t.Helper()
	if m, e := dns.Get([]byte(b)); e != api.OK || !same(m, want) {
		t.Errorf("P21.1: Get(%.300q): %s, %d instead of %s", b, show(m), e, show(want))
	}
}

func checkNotGet(t *testing.T, b string, want api.Errno) {
	t.Helper()
	m, e := dns.Get([]byte(b))
	if e != want {
		t.Errorf("P21.1: Get(%.300q): %d instead of %d", b, e, want)
	}
	if e != api.OK && !same(m, dns.Message{}) {
		t.Errorf("R2: Get(%.300q) with the error %d: %s", b, e, show(m))
	}
}

// checkData has a record of this type whose name leads to the labels a and b at 12
// and 14, with the bytes data as its Data, in each list, also before another record.
func checkData(t *testing.T, typ int, data, want string) {
	t.Helper()
	begin := asks("\x01a\x01b\x00", 1) + tells(lead(12), typ, data)
	for n := range 2 {
		b := begin + strings.Repeat(tells("\x01n\x00", 1, "1234"), n)
		l := records(record(typ, want, "a", "b"), record(1, "1234", "n"))[:n+1]
		m := dns.Message{ID: 0x1234, Flags: 0x8180, Asked: questions(question(1, "a", "b"))}
		m.Answers = l
		checkGet(t, head(1, n+1, 0, 0)+b, m)
		m.Answers, m.Owners = nil, l
		checkGet(t, head(1, 0, n+1, 0)+b, m)
		m.Owners, m.More = nil, l
		checkGet(t, head(1, 0, 0, n+1)+b, m)
	}
}

// checkNotData has the same record, where Get fails whatever follows.
func checkNotData(t *testing.T, typ int, data string) {
	t.Helper()
	begin := asks("\x01a\x01b\x00", 1) + tells(lead(12), typ, data)
	for _, behind := range []string{"", "\x00", "z\x00", "\x01z\x00", "\x0c", "\xc0\x0c", strings.Repeat("\x00", 300)} {
		for _, h := range []string{head(1, 1, 0, 0), head(1, 0, 1, 0), head(1, 0, 0, 1), head(1, 2, 0, 0), head(1, 1, 3, 5)} {
			checkNotGet(t, h+begin+behind, api.EFORM)
		}
	}
}

func checkPut(t *testing.T, m dns.Message, want string) {
	t.Helper()
	if b, e := dns.Put(m); e != api.OK || string(b) != want {
		t.Errorf("P21.1: Put(%s): %.300q, %d instead of %.300q", show(m), b, e, want)
	}
}

func checkNotPut(t *testing.T, m dns.Message, want api.Errno) {
	t.Helper()
	b, e := dns.Put(m)
	if e != want {
		t.Errorf("P21.1: Put(%s): %d instead of %d", show(m), e, want)
	}
	if e != api.OK && len(b) != 0 {
		t.Errorf("R2: Put(%s) with the error %d: %.300q", show(m), e, b)
	}
}

// wrongNumbers do not fit into two bytes, and rightNumbers do.
func wrongNumbers() []int {
	return []int{-1, -2, -255, -256, -32768, -65535, -65536, 65536, 65537, 98304, 131071, 131072, 1 << 31, 1 << 32, 1<<32 | 1, -1 << 32, math.MaxInt32, math.MinInt32, math.MaxInt - 1, math.MaxInt, math.MinInt, math.MinInt + 1}
}

func rightNumbers() []int {
	return []int{0, 1, 2, 127, 128, 255, 256, 257, 511, 512, 32767, 32768, 32769, 65279, 65280, 65534, 65535}
}

// longNames are all that have as many bytes as a name may have, in some shapes.
func longNames() [][]string {
	a := strings.Split(letters(127), "")
	return [][]string{
		{letters(63), letters(63), letters(63), letters(61)},
		{letters(61), letters(63), letters(63), letters(63)},
		{letters(1), letters(62), letters(63), letters(63), letters(60)},
		a,
		append(slices.Clone(a[:95]), letters(63)),
	}
}

// wrongNames are not good.
func wrongNames() [][]string {
	l := [][]string{{""}, {"", ""}, {"a", ""}, {"", "a"}, {"a", "", "b"}, {letters(64)}, {"a", letters(64)}, {letters(64), "a"}, {letters(255)}, {letters(256)}, {letters(257)}, {letters(70000)}, slices.Repeat(names("a"), 128), slices.Repeat(names("a"), 70000)}
	for _, long := range longNames() {
		l = append(l, append(slices.Clone(long), "y"), append(names("y"), long...))
	}
	return l
}

func TestExampleOfTheChapter(t *testing.T) {
	for _, m := range []dns.Message{{}, {ID: 1}, usual(), unlinked()} {
		b, e := dns.Put(m)
		if e != api.OK {
			t.Errorf("P21.1: Put(%s): %d", show(m), e)
		}
		checkGet(t, string(b), m)
	}
}
