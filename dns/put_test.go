package dns_test

import (
	"math"
	"slices"
	"strings"
	"testing"

	"gatehouse/api"
	"gatehouse/dns"
)

func TestPut(t *testing.T) {
	checkPut(t, usual(), usualBytes)
	checkPut(t, dns.Message{}, strings.Repeat("\x00", 12))
	checkPut(t, dns.Message{ID: 0x1234, Flags: 0x8180}, head(0, 0, 0, 0))
	checkPut(t, dns.Message{ID: 0x1234, Flags: 0x8180, Asked: questions(question(28, "a"))}, head(1, 0, 0, 0)+asks("\x01a\x00", 28))
	checkPut(t, dns.Message{ID: 0x1234, Flags: 0x8180, Answers: records(record(1, "1234", "a"))}, head(0, 1, 0, 0)+tells("\x01a\x00", 1, "1234"))
	checkPut(t, dns.Message{ID: 0x1234, Flags: 0x8180, Owners: records(record(1, "1234", "a"))}, head(0, 0, 1, 0)+tells("\x01a\x00", 1, "1234"))
	checkPut(t, dns.Message{ID: 0x1234, Flags: 0x8180, More: records(record(1, "1234", "a"))}, head(0, 0, 0, 1)+tells("\x01a\x00", 1, "1234"))
}

// TestPutWithoutPointers has names that occur several times, and ones that end alike.
func TestPutWithoutPointers(t *testing.T) {
	m := dns.Message{ID: 0x1234, Flags: 0x8180}
	b := ""
	for range 3 {
		for _, l := range [][]string{{"a", "b"}, {"A", "B"}, {"b"}, {"c", "a", "b"}, nil} {
			m.Asked = append(m.Asked, question(1, l...))
			b += asks(whole(l...), 1)
		}
	}
	for range 3 {
		for _, l := range [][]string{{"a", "b"}, {"b"}, {"c", "a", "b"}, nil} {
			m.More = append(m.More, record(5, whole(l...), l...))
			b += tells(whole(l...), 5, whole(l...))
		}
	}
	checkPut(t, m, head(15, 0, 0, 12)+b)
}

// TestPutOfAnyData has Data that is written as it is, also where its type says that
// it contains names.
func TestPutOfAnyData(t *testing.T) {
	for _, typ := range []int{0, 1, 2, 5, 6, 12, 15, 16, 28, 41, 255, 65535} {
		for _, data := range []string{"", "\x00", "\x01", "\x40", lead(12), "\x01a", "\x01a\x00\x00", "ab" + lead(0), lead(12) + lead(12) + soa, soa, strings.Repeat("\xff", 1000)} {
			m := dns.Message{ID: 0x1234, Flags: 0x8180, Owners: records(record(typ, data, "n"))}
			checkPut(t, m, head(0, 0, 1, 0)+tells("\x01n\x00", typ, data))
		}
	}
	for c := range 256 {
		data := string([]byte{byte(c), byte(255 - c)})
		checkPut(t, dns.Message{ID: 0x1234, Flags: 0x8180, Answers: records(record(1, data))}, head(0, 1, 0, 0)+tells("\x00", 1, data))
	}
	checkPut(t, dns.Message{Answers: records(dns.Record{})}, "\x00\x00\x00\x00\x00\x00\x00\x01\x00\x00\x00\x00\x00\x00\x00\x00\x00\x00\x00\x00\x00\x00\x00")
}

// TestPutOfEachNumber has all numbers that two bytes hold.
func TestPutOfEachNumber(t *testing.T) {
	for v := range 1 << 16 {
		w := 65535 - v
		q := dns.Question{Name: names("q"), Type: v, Class: w}
		x := dns.Record{Type: w, Class: v, Ttl: uint32(v)<<16 | uint32(w), Data: []byte("!")}
		want := pair(v) + pair(w) + "\x00\x01\x00\x00\x00\x00\x00\x01" + "\x01q\x00" + pair(v) + pair(w) + "\x00" + pair(w) + pair(v) + pair(v) + pair(w) + "\x00\x01!"
		checkPut(t, dns.Message{ID: v, Flags: w, Asked: questions(q), More: records(x)}, want)
	}
	for _, v := range rightNumbers() {
		ttl := uint32(v)<<16 | uint32(v)>>8
		checkPut(t, dns.Message{Owners: records(dns.Record{Ttl: ttl})}, strings.Repeat("\x00", 9)+"\x01\x00\x00\x00\x00\x00\x00\x00"+quad(ttl)+"\x00\x00")
	}
}

// numbers returns the places of all numbers of two bytes in m.
func numbers(m *dns.Message) []*int {
	l := []*int{&m.ID, &m.Flags}
	for i := range m.Asked {
		l = append(l, &m.Asked[i].Type, &m.Asked[i].Class)
	}
	for _, list := range [][]dns.Record{m.Answers, m.Owners, m.More} {
		for i := range list {
			l = append(l, &list[i].Type, &list[i].Class)
		}
	}
	return l
}

// labels returns the places of all names in m.
func labels(m *dns.Message) []*[]string {
	var l []*[]string
	for i := range m.Asked {
		l = append(l, &m.Asked[i].Name)
	}
	for _, list := range [][]dns.Record{m.Answers, m.Owners, m.More} {
		for i := range list {
			l = append(l, &list[i].Name)
		}
	}
	return l
}

// data returns the places of all Data in m.
func data(m *dns.Message) []*[]byte {
	var l []*[]byte
	for _, list := range [][]dns.Record{m.Answers, m.Owners, m.More} {
		for i := range list {
			l = append(l, &list[i].Data)
		}
	}
	return l
}

// changed are usual messages, and ones that are too long by their first record or by
// their last, so that an error EARG stands before and behind what is too long.
func changed() []func() dns.Message {
	long := make([]byte, 1473)
	return []func() dns.Message{
		usual,
		func() dns.Message { m := usual(); m.Answers[0].Data = long; return m },
		func() dns.Message { m := usual(); m.More[2].Data = long; return m },
		func() dns.Message { m := usual(); m.Owners[1].Data = make([]byte, 65535); return m },
	}
}

func TestPutOfWrongNumbers(t *testing.T) {
	for i, message := range changed() {
		m := message()
		for place := range numbers(&m) {
			for _, v := range wrongNumbers() {
				m := message()
				*numbers(&m)[place] = v
				checkNotPut(t, m, api.EARG)
			}
			for _, v := range rightNumbers() {
				m := message()
				*numbers(&m)[place] = v
				if i > 0 {
					checkNotPut(t, m, api.ELIMIT)
					continue
				}
				b, _ := plainPut(m)
				checkPut(t, m, b)
			}
		}
	}
}

func TestPutOfWrongNames(t *testing.T) {
	for _, message := range changed() {
		m := message()
		for place := range labels(&m) {
			for _, l := range wrongNames() {
				m := message()
				*labels(&m)[place] = l
				checkNotPut(t, m, api.EARG)
			}
		}
	}
	m := usual()
	for place := range labels(&m) {
		for _, l := range append(longNames(), nil, []string{}, names("."), names("\x00", "\xff\xc0"), names(letters(63))) {
			m := usual()
			*labels(&m)[place] = l
			b, _ := plainPut(m)
			checkPut(t, m, b)
			checkGet(t, b, m)
		}
	}
}

func TestPutOfTooMuchData(t *testing.T) {
	for _, message := range changed() {
		m := message()
		for place := range data(&m) {
			for _, n := range []int{1473, 65534, 65535, 65536, 65537, 131071, 131072, 131073, 1<<24 + 1} {
				m := message()
				*data(&m)[place] = make([]byte, n)
				if n > 65535 {
					checkNotPut(t, m, api.EARG)
				} else {
					checkNotPut(t, m, api.ELIMIT)
				}
			}
		}
	}
}

// filled returns a message with these numbers of questions and records.
func filled(asked, answers, owners, more int) dns.Message {
	return dns.Message{Asked: slices.Repeat(questions(question(1)), asked), Answers: slices.Repeat(records(record(1, "a")), answers), Owners: slices.Repeat(records(record(1, "b")), owners), More: slices.Repeat(records(record(1, "c")), more)}
}

// TestPutOfCounts has numbers of questions and records around the limit.
func TestPutOfCounts(t *testing.T) {
	some := []int{0, 1, 2, 16, 31, 32, 33, 62, 63, 64, 65, 66, 128}
	for _, asked := range some {
		for _, answers := range some {
			for _, owners := range some {
				for _, more := range some {
					m := filled(asked, answers, owners, more)
					if asked+answers+owners+more > 64 {
						checkNotPut(t, m, api.EARG)
						continue
					}
					b, _ := plainPut(m)
					checkPut(t, m, b)
				}
			}
		}
	}
	for _, n := range []int{65, 255, 256, 257, 320, 65535, 65536, 65537, 65600} {
		for _, m := range []dns.Message{filled(n, 0, 0, 0), filled(0, n, 0, 0), filled(0, 0, n, 0), filled(0, 0, 0, n), filled(n, n, n, n)} {
			checkNotPut(t, m, api.EARG)
		}
	}
}

// TestPutOfSizes has the edges of the number of bytes, by questions, by names and by
// Data in each list.
func TestPutOfSizes(t *testing.T) {
	for n := range 1600 {
		data := strings.Repeat("z", n)
		for i := range 3 {
			m := dns.Message{ID: 0x1234, Flags: 0x8180}
			*[]*[]dns.Record{&m.Answers, &m.Owners, &m.More}[i] = records(record(16, data))
			if n > 1449 {
				checkNotPut(t, m, api.ELIMIT)
				continue
			}
			b := []string{head(0, 1, 0, 0), head(0, 0, 1, 0), head(0, 0, 0, 1)}[i] + tells("\x00", 16, data)
			checkPut(t, m, b)
			checkGet(t, b, m)
		}
	}
	for n := range 60 { // each question has 25 bytes, and each record 31
		for k := range 60 {
			l := letters(19)
			m := dns.Message{ID: 0x1234, Flags: 0x8180, Asked: slices.Repeat(questions(question(1, l)), n), Owners: slices.Repeat(records(record(1, "", l)), k)}
			switch {
			case n+k > 64:
				checkNotPut(t, m, api.EARG)
			case 12+25*n+31*k > 1472:
				checkNotPut(t, m, api.ELIMIT)
			default:
				checkPut(t, m, head(n, 0, k, 0)+strings.Repeat(asks(whole(l), 1), n)+strings.Repeat(tells(whole(l), 1, ""), k))
			}
		}
	}
	long := slices.Repeat(questions(question(1, longNames()[0]...)), 5)
	for n := 1; n <= 63; n++ { // 5 questions with 259 bytes each, and one with 134 + n
		q := question(1, letters(63), letters(63), letters(n))
		m := dns.Message{ID: 0x1234, Flags: 0x8180, Asked: append(slices.Clone(long), q)}
		if n > 31 {
			checkNotPut(t, m, api.ELIMIT)
			continue
		}
		checkPut(t, m, head(6, 0, 0, 0)+strings.Repeat(asks(whole(long[0].Name...), 1), 5)+asks(whole(q.Name...), 1))
	}
}

// refused is the word of the chapter, bit by bit.
func refused(m dns.Message, code int) dns.Message {
	r := dns.Message{ID: m.ID, Flags: 32768 + 128, Asked: m.Asked}
	for _, bit := range []int{256, 2048, 4096, 8192, 16384} {
		if m.Flags&bit != 0 {
			r.Flags += bit
		}
	}
	for _, bit := range []int{1, 2, 4, 8} {
		if code&bit != 0 {
			r.Flags += bit
		}
	}
	return r
}

func checkRefuse(t *testing.T, m dns.Message, code int) {
	t.Helper()
	if r, want := dns.Refuse(m, code), refused(m, code); !same(r, want) {
		t.Errorf("P21.1: Refuse(%s, %d): %s instead of %s", show(m), code, show(r), show(want))
	}
}

func TestRefuse(t *testing.T) {
	want := dns.Message{ID: 0x1234, Flags: 0x8185, Asked: questions(question(1, "www", "Example", "org"), question(255))}
	if r := dns.Refuse(usual(), 5); !same(r, want) {
		t.Errorf("P21.1: Refuse: %s", show(r))
	}
	m := usual()
	m.Flags = 0
	want.Flags = 0x8080
	if r := dns.Refuse(m, 0); !same(r, want) {
		t.Errorf("P21.1: Refuse: %s", show(r))
	}
	m.Flags = 0xffff
	want.Flags = 0xf98f
	if r := dns.Refuse(m, -1); !same(r, want) {
		t.Errorf("P21.1: Refuse: %s", show(r))
	}
}

func TestRefuseOfEachFlag(t *testing.T) {
	for v := range 1 << 16 {
		checkRefuse(t, dns.Message{ID: v, Flags: v}, v)
		checkRefuse(t, dns.Message{ID: 65535 - v, Flags: v}, 0)
		checkRefuse(t, dns.Message{Flags: v}, 65535-v)
	}
	for _, v := range append(wrongNumbers(), rightNumbers()...) {
		for code := -40; code < 40; code++ {
			checkRefuse(t, dns.Message{ID: v, Flags: v}, code)
		}
		for _, code := range append(wrongNumbers(), rightNumbers()...) {
			checkRefuse(t, dns.Message{ID: v, Flags: 65535}, code)
			checkRefuse(t, dns.Message{Flags: v}, code)
		}
		checkRefuse(t, dns.Message{Asked: questions(dns.Question{Type: v, Class: v})}, 3)
	}
	for i := range 63 {
		checkRefuse(t, dns.Message{Flags: 1 << i}, 1<<i)
		checkRefuse(t, dns.Message{ID: 1 << i, Flags: -1 << i}, -1<<i)
	}
	checkRefuse(t, dns.Message{Flags: math.MinInt}, math.MinInt)
}

// TestRefuseOfQuestions has any numbers of questions, also ones with names that are
// not good, and no records remain.
func TestRefuseOfQuestions(t *testing.T) {
	for n := range 200 {
		m := filled(n, 1, 2, 3)
		for i := range m.Asked {
			m.Asked[i].Name = []string{letters(i), "q"}
			m.Asked[i].Type = i
			m.Asked[i].Class = -i
		}
		m.ID = n
		checkRefuse(t, m, n)
	}
	for _, l := range append(wrongNames(), longNames()...) {
		checkRefuse(t, dns.Message{Asked: questions(question(1, l...), question(2))}, 4)
	}
	checkRefuse(t, filled(1<<16, 0, 0, 0), 2)
}
