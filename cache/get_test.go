package cache_test

import (
	"math"
	"testing"

	"gatehouse/dns"
)

// usual is a message with something of everything, and an ID and a question that are
// never told.
func usual() dns.Message {
	return dns.Message{
		ID: 0x1234, Flags: found + 1024 + 256,
		Asked:   []dns.Question{question(5, "never", "told"), question(6)},
		Answers: records(record(5, 100, "\x04host\x00", "www"), record(1, 60, "\x0a\x00\x00\x07", "host"), record(1, 61, "")),
		Owners:  records(record(2, 10, "\x02ns\x00", "Example", "org"), soa(math.MaxUint32, 30), record(2, 0, "\x00")),
		More:    records(record(41, 1<<15, ""), record(1, 59, "\x0a\x00\x00\x08", "ns"), record(28, 1, "0123456789abcdef", "ns")),
	}
}

// told is what is told of m for the question q with this id, some seconds later.
func told(m dns.Message, q dns.Question, id int, secs int64) dns.Message {
	later := func(l []dns.Record) []dns.Record {
		var told []dns.Record
		for _, x := range l {
			x.Ttl = uint32(max(0, int64(x.Ttl)-secs))
			told = append(told, x)
		}
		return told
	}
	return dns.Message{
		ID: int(uint16(id)), Flags: m.Flags | 128, Asked: []dns.Question{q},
		Answers: later(m.Answers), Owners: later(m.Owners), More: later(m.More),
	}
}

// TestGet has the usual message at all times of its life.
func TestGet(t *testing.T) {
	for _, now := range []int64{0, 1, 1000, 1 << 40} {
		c := made(t, 2)
		checkPut(t, c, asks("www"), usual(), now, true)
		for secs := range int64(60) {
			checkGet(t, c, asks("www"), 9, now+secs, told(usual(), asks("www"), 9, secs))
		}
		checkNone(t, c, asks("www"), now-1)
		checkNone(t, c, asks("www"), now+60)
		for secs := int64(59); secs >= 0; secs-- {
			checkGet(t, c, asks("www"), 10, now+secs, told(usual(), asks("www"), 10, secs))
		}
	}
}

// TestTtls has records of all kinds with Ttls at each edge, at ages at each edge.
func TestTtls(t *testing.T) {
	var l []dns.Record
	for _, ttl := range edges {
		l = append(l, record(1, ttl, "abcd", "x"), record(6, ttl, "", "x"))
	}
	m := dns.Message{Flags: found, Answers: records(record(1, math.MaxUint32, "abcd")), Owners: l, More: l}
	c := made(t, 1)
	checkPut(t, c, asks("a"), m, 77, true)
	for _, secs := range edges {
		if secs < day {
			checkGet(t, c, asks("a"), 5, 77+int64(secs), told(m, asks("a"), 5, int64(secs)))
		}
	}
	checkNone(t, c, asks("a"), 77+day)
}

// TestDenials has a message without answers.
func TestDenials(t *testing.T) {
	c := made(t, 1)
	m := denial(record(2, 1, "abcd", "x"), soa(50, 40))
	m.More = records(record(1, 39, "abcd", "y"))
	checkPut(t, c, asks("a"), m, 3, true)
	for secs := range int64(40) {
		checkGet(t, c, asks("a"), 5, 3+secs, told(m, asks("a"), 5, secs))
	}
	checkNone(t, c, asks("a"), 43)
}

// TestEmptyParts has messages that lack some of their parts.
func TestEmptyParts(t *testing.T) {
	for parts := range 8 {
		m := usual()
		m.Asked = nil
		if parts&1 != 0 {
			m.Owners = records()
		}
		if parts&2 != 0 {
			m.More = nil
		}
		if parts&4 != 0 {
			m.Answers, m.Owners = nil, records(soa(50, 40))
		}
		c := made(t, 1)
		checkPut(t, c, dns.Question{}, m, 3, true)
		checkGet(t, c, dns.Question{}, 5, 10, told(m, dns.Question{}, 5, 7))
	}
}

// TestIds has ids of all kinds, of which two bytes are told.
func TestIds(t *testing.T) {
	c := made(t, 1)
	checkPut(t, c, asks("www"), usual(), 0, true)
	for id, want := range map[int]int{
		0: 0, 1: 1, 255: 255, 256: 256, 0x1234: 0x1234, 32768: 32768, 65535: 65535, 65536: 0, 65537: 1,
		1 << 31: 0, 1<<40 + 77: 77, -1: 65535, -2: 65534, -65536: 0, -65537: 65535, math.MinInt: 0, math.MaxInt: 65535,
	} {
		m, ok := c.Get(asks("www"), id, 1)
		if !ok || m.ID != want {
			t.Errorf("P22.1: the ID of Get with the id %d: %d, %v", id, m.ID, ok)
		}
	}
	for id := range 65536 {
		if m, _ := c.Get(asks("www"), id, 1); m.ID != id {
			t.Errorf("P22.1: the ID of Get with the id %d: %d", id, m.ID)
		}
	}
}

// equals are the questions that are equal to the first one, which are told as they
// were asked.
var equals = []dns.Question{
	question(28, "www", "example", "org"), question(28, "WWW", "EXAMPLE", "ORG"), question(28, "wWw", "exAmple", "orG"),
}

// others are questions that are not.
var others = []dns.Question{
	question(27, "www", "example", "org"), question(28+65536, "www", "example", "org"), question(-28, "www", "example", "org"), question(0, "www", "example", "org"),
	{Name: []string{"www", "example", "org"}, Type: 28, Class: 0}, {Name: []string{"www", "example", "org"}, Type: 28, Class: 2},
	{Name: []string{"www", "example", "org"}, Type: 28, Class: 255}, {Name: []string{"www", "example", "org"}, Type: 28, Class: 1 + 65536}, {Name: []string{"www", "example", "org"}, Type: 28, Class: -1},
	{Name: []string{"www", "example", "org"}, Type: 1, Class: 28},
	question(28), question(28, "www"), question(28, "www", "example"), question(28, "example", "org"), question(28, "org", "example", "www"),
	question(28, "www", "example", "org", ""), question(28, "", "www", "example", "org"), question(28, "www", "example", "org", "org"),
	question(28, "www.example.org"), question(28, "www", "example.org"), question(28, "www.example", "org"), question(28, "wwwexample", "org"), question(28, "www", "example", "or"),
	question(28, "www", "example", "orgs"), question(28, "xww", "example", "org"), question(28, "www", "examplf", "org"), question(28, "www", "example", "org\x00"),
}

func TestEqualQuestions(t *testing.T) {
	for _, p := range equals {
		for _, q := range equals {
			c := made(t, 3)
			checkPut(t, c, p, answer(60), 0, true)
			checkGet(t, c, q, 3, 20, told(answer(60), q, 3, 20))
			checkPut(t, c, q, answer(90), 10, true)
			checkLen(t, c, 20, 1)
			checkGet(t, c, p, 3, 20, told(answer(90), p, 3, 10))
			checkGet(t, c, q, 3, 99, told(answer(90), q, 3, 89))
		}
	}
}

func TestOtherQuestions(t *testing.T) {
	for i, q := range others {
		c := made(t, 64)
		checkPut(t, c, equals[0], answer(60), 0, true)
		checkNone(t, c, q, 0)
		checkPut(t, c, q, answer(50), 0, true)
		checkLen(t, c, 0, 2)
		for _, p := range equals {
			checkGet(t, c, p, 3, 20, told(answer(60), p, 3, 20))
		}
		checkGet(t, c, q, 3, 20, told(answer(50), q, 3, 20))
		for _, p := range others[:i] {
			checkNone(t, c, p, 0)
		}
	}
	c := made(t, 64)
	for i, q := range others {
		checkPut(t, c, q, answer(uint32(100+i)), 0, true)
		checkLen(t, c, 0, i+1)
	}
	for i, q := range others {
		checkGet(t, c, q, i, 0, told(answer(uint32(100+i)), q, i, 0))
	}
	checkNone(t, c, equals[0], 0)
}

// TestLetters has all pairs of bytes: only the letters A to Z are like others.
func TestLetters(t *testing.T) {
	lower := func(b int) int {
		if b >= 'A' && b <= 'Z' {
			return b + 32
		}
		return b
	}
	label := func(b int) string { return "x" + string([]byte{byte(b)}) }
	for a := range 256 {
		c := made(t, 1)
		checkPut(t, c, asks(label(a), "y"), answer(60), 0, true)
		for b := range 256 {
			q := asks(label(b), "Y")
			if lower(a) == lower(b) {
				checkGet(t, c, q, 3, 0, told(answer(60), q, 3, 0))
			} else {
				checkNone(t, c, q, 0)
			}
		}
	}
}

// TestOddQuestions has names that are not good and numbers beyond two bytes, which
// are names and numbers like others.
func TestOddQuestions(t *testing.T) {
	long := string(make([]byte, 300))
	odd := []dns.Question{
		{}, asks(""), asks("", ""), asks(long), asks(long[:64]), asks(long, long),
		{Type: -1}, {Type: math.MinInt}, {Type: math.MaxInt}, {Type: 65536}, {Class: -1}, {Class: math.MinInt}, {Class: math.MaxInt}, {Class: 65536},
	}
	c := made(t, 64)
	for i, q := range odd {
		checkNone(t, c, q, 0)
		checkPut(t, c, q, answer(uint32(100+i)), 0, true)
	}
	checkLen(t, c, 0, len(odd))
	for i, q := range odd {
		checkGet(t, c, q, 0, 1, told(answer(uint32(100+i)), q, 0, 1))
	}
}

// TestOddRecords has records that no message may have, which are told as they are.
func TestOddRecords(t *testing.T) {
	long := string(make([]byte, 70000))
	m := answer(60)
	m.ID = -1
	for _, n := range []int{-1, math.MinInt, math.MaxInt, 65536} {
		m.Answers = append(m.Answers, dns.Record{Name: []string{"", long}, Type: n, Class: -n, Ttl: 60, Data: []byte(long)})
		m.Owners = append(m.Owners, dns.Record{Type: n})
		m.More = append(m.More, dns.Record{Class: n, Ttl: math.MaxUint32})
	}
	for range 100 {
		m.More = append(m.More, record(1, 99, "abcd", "many"))
	}
	c := made(t, 1)
	checkPut(t, c, asks("a"), m, 0, true)
	checkGet(t, c, asks("a"), 1, 30, told(m, asks("a"), 1, 30))
}
