package cache_test

import (
	"bytes"
	"math"
	"slices"
	"testing"

	"gatehouse/api"
	"gatehouse/cache"
	"gatehouse/dns"
)

// The Flags of what is mostly stored: an answer, and one that there is no such name.
const (
	found    = 32768
	notFound = 32768 + 3
)

// day is the greatest lifetime of all.
const day = 86400

func question(typ int, labels ...string) dns.Question {
	return dns.Question{Name: labels, Type: typ, Class: 1}
}

// asks returns a question of the usual type.
func asks(labels ...string) dns.Question { return question(1, labels...) }

func record(typ int, ttl uint32, data string, labels ...string) dns.Record {
	return dns.Record{Name: labels, Type: typ, Class: 1, Ttl: ttl, Data: []byte(data)}
}

func records(l ...dns.Record) []dns.Record { return l }

// answer returns a message with an answer for each of these Ttls.
func answer(ttls ...uint32) dns.Message {
	m := dns.Message{Flags: found}
	for i, ttl := range ttls {
		m.Answers = append(m.Answers, record(1, ttl, string([]byte{10, 0, 0, byte(i)}), "a"))
	}
	return m
}

// denial returns a message without answers that has these authority records.
func denial(owners ...dns.Record) dns.Message {
	return dns.Message{Flags: notFound, Owners: owners}
}

// quad returns the four bytes of v.
func quad(v uint32) string {
	return string([]byte{byte(v >> 24), byte(v >> 16), byte(v >> 8), byte(v)})
}

// soa returns an authority record of type 6 with Data that ends with this number.
func soa(ttl, number uint32) dns.Record {
	return record(6, ttl, "\x02ns\x00\x05admin\x00abcdefghijklmnop"+quad(number), "org")
}

func sameQuestion(p, q dns.Question) bool {
	return slices.Equal(p.Name, q.Name) && p.Type == q.Type && p.Class == q.Class
}

func sameRecord(x, y dns.Record) bool {
	return slices.Equal(x.Name, y.Name) && x.Type == y.Type && x.Class == y.Class && x.Ttl == y.Ttl && bytes.Equal(x.Data, y.Data)
}

// same reports whether two messages are equal, where an empty list is like none.
func same(m, n dns.Message) bool {
	return m.ID == n.ID && m.Flags == n.Flags && slices.EqualFunc(m.Asked, n.Asked, sameQuestion) &&
		slices.EqualFunc(m.Answers, n.Answers, sameRecord) &&
		slices.EqualFunc(m.Owners, n.Owners, sameRecord) &&
		slices.EqualFunc(m.More, n.More, sameRecord)
}

func made(t *testing.T, room int) *cache.Cache {
	t.Helper()
	c, e := cache.New(room)
	if c == nil || e != api.OK {
		t.Fatalf("P22.1: New(%d): %v, %d", room, c, e)
	}
	return c
}

func checkPut(t *testing.T, c *cache.Cache, q dns.Question, m dns.Message, now int64, want bool) {
	t.Helper()
	if ok := c.Put(q, m, now); ok != want {
		t.Errorf("P22.1: Put of %+v for %+v at %d: %v", m, q, now, ok)
	}
}

func checkGet(t *testing.T, c *cache.Cache, q dns.Question, id int, now int64, want dns.Message) {
	t.Helper()
	if m, ok := c.Get(q, id, now); !ok || !same(m, want) {
		t.Errorf("P22.1: Get of %+v with the id %d at %d: %+v, %v instead of %+v", q, id, now, m, ok, want)
	}
}

func checkNone(t *testing.T, c *cache.Cache, q dns.Question, now int64) {
	t.Helper()
	if m, ok := c.Get(q, 7, now); ok || !same(m, dns.Message{}) {
		t.Errorf("P22.1, R2: Get of %+v at %d: %+v, %v", q, now, m, ok)
	}
}

func checkLen(t *testing.T, c *cache.Cache, now int64, want int) {
	t.Helper()
	if n := c.Len(now); n != want {
		t.Errorf("P22.1: Len(%d): %d instead of %d", now, n, want)
	}
}

// checkLife fails unless m is stored for this number of seconds, or not at all if it
// is 0.
func checkLife(t *testing.T, m dns.Message, secs int64) {
	t.Helper()
	for _, now := range []int64{0, 1, 100000, api.MaxTime - 1, api.MaxTime} {
		c := made(t, 3)
		checkPut(t, c, asks("a"), m, now, secs > 0)
		if secs == 0 {
			checkNone(t, c, asks("a"), now)
			checkLen(t, c, now, 0)
			continue
		}
		for _, at := range []int64{now, now + secs/2, now + secs - 1} {
			if _, ok := c.Get(asks("a"), 7, at); !ok {
				t.Errorf("P22.1: no answer at %d, though %d seconds from %d on", at, secs, now)
			}
			checkLen(t, c, at, 1)
		}
		for _, at := range []int64{now - 1, now + secs, now + secs + 1, -now - 1, now + day, math.MinInt64, math.MaxInt64} {
			checkNone(t, c, asks("a"), at)
			checkLen(t, c, at, 0)
		}
	}
}

func TestNew(t *testing.T) {
	for room := 1; room <= 64; room++ {
		c := made(t, room)
		for _, now := range []int64{math.MinInt64, -1, 0, 1, api.MaxTime, math.MaxInt64} {
			checkLen(t, c, now, 0)
			checkNone(t, c, asks("a"), now)
			checkNone(t, c, dns.Question{}, now)
		}
	}
	for _, room := range []int{0, -1, -2, -64, 65, 66, 128, 1 << 32, 1<<32 + 1, math.MinInt, math.MaxInt} {
		if c, e := cache.New(room); c != nil || e != api.EARG {
			t.Errorf("P22.1: New(%d): %v, %d", room, c, e)
		}
	}
}

// TestExample is the example of the chapter.
func TestExample(t *testing.T) {
	c := made(t, 1)
	checkPut(t, c, asks("a"), answer(60), 0, true)
	want := answer(50)
	want.ID, want.Flags, want.Asked = 7, found+128, []dns.Question{asks("a")}
	checkGet(t, c, asks("a"), 7, 10, want)
}

// TestFlags has all Flags of two bytes, and greater ones and negative ones, which are
// used bit by bit.
func TestFlags(t *testing.T) {
	high := []int{0, 65536, 1 << 31, 1 << 62, -65536, math.MinInt, -1 << 31}
	for flags := range 65536 {
		code := flags % 16
		want := flags >= 32768 && flags/512%2 == 0 && (code == 0 || code == 3)
		for _, h := range high {
			c := made(t, 1)
			m := answer(60)
			m.Flags = flags | h
			checkPut(t, c, asks("a"), m, 5, want)
			if !want {
				checkNone(t, c, asks("a"), 5)
				checkLen(t, c, 5, 0)
				continue
			}
			told := m
			told.Flags = flags | h | 128
			told.Asked = []dns.Question{asks("a")}
			checkGet(t, c, asks("a"), 0, 5, told)
		}
	}
	for _, flags := range []int{0, -1, math.MaxInt, math.MinInt, 3, 128} {
		m := answer(60)
		m.Flags = flags
		checkPut(t, made(t, 1), asks("a"), m, 5, false)
	}
}

// TestTimesOfPut has times in range and others.
func TestTimesOfPut(t *testing.T) {
	for _, now := range []int64{-1, -2, -60, -api.MaxTime, math.MinInt64, api.MaxTime + 1, api.MaxTime + 60, 1 << 50, math.MaxInt64 - 60, math.MaxInt64} {
		c := made(t, 2)
		checkPut(t, c, asks("a"), answer(60), now, false)
		for _, at := range []int64{now, now + 1, 0, api.MaxTime} {
			checkNone(t, c, asks("a"), at)
			checkLen(t, c, at, 0)
		}
	}
	for _, now := range []int64{0, 1, 59, 60, 1 << 31, 1 << 32, 1<<40 - 1, 1 << 40} {
		c := made(t, 2)
		checkPut(t, c, asks("a"), answer(60), now, true)
		want := answer(60)
		want.ID, want.Flags, want.Asked = 1, found+128, []dns.Question{asks("a")}
		checkGet(t, c, asks("a"), 1, now, want)
	}
}

// edges are the numbers of seconds at which something may change.
var edges = []uint32{
	0, 1, 2, 3, 59, 60, 255, 256, 3599, 3600, 3601, 65535, 65536, day - 1, day, day + 1,
	1<<24 - 1, 1 << 24, math.MaxInt32, 1 << 31, 1<<31 + 1, math.MaxUint32 - 1, math.MaxUint32,
}

// TestLifetimeOfAnswers has the Ttls of one, two and three answers at each edge.
func TestLifetimeOfAnswers(t *testing.T) {
	for _, a := range edges {
		checkLife(t, answer(a), int64(min(a, day)))
		for _, b := range edges {
			checkLife(t, answer(a, b), int64(min(a, b, day)))
			checkLife(t, answer(b, day+9, a), int64(min(a, b, day)))
		}
	}
	for n := 1; n <= 70; n++ {
		for _, least := range []int{0, n / 2, n - 1} {
			ttls := slices.Repeat([]uint32{50}, n)
			ttls[least] = 40
			checkLife(t, answer(ttls...), 40)
			ttls[least] = 0
			checkLife(t, answer(ttls...), 0)
		}
	}
}

// TestOnlyAnswersCount has messages with answers and other records beside them, whose
// Ttls and numbers do not matter; neither do the Types and Classes of answers, nor the
// code.
func TestOnlyAnswersCount(t *testing.T) {
	for _, ttl := range []uint32{0, 1, 30, 90, day + 1} {
		for _, other := range []uint32{0, 1, 30, 90, day + 1} {
			m := answer(ttl)
			m.Owners = records(soa(other, other), record(2, other, "\x00"))
			m.More = records(record(1, other, "abcd"), soa(other, 5))
			for _, flags := range []int{found, notFound} {
				m.Flags = flags
				checkLife(t, m, int64(min(ttl, day)))
			}
		}
	}
	for _, typ := range []int{-1, 0, 1, 2, 5, 6, 28, 41, 65535, 65536} {
		for _, class := range []int{-1, 0, 1, 3, 255, 65535, 65536} {
			x := record(typ, 70, quad(20), "b", "c")
			x.Class = class
			checkLife(t, dns.Message{Flags: found, Answers: records(record(1, 90, "abcd"), x)}, 70)
			checkLife(t, dns.Message{Flags: found, Answers: records(x, record(1, 50, "abcd"))}, 50)
		}
	}
}

// TestLifetimeOfDenials has the Ttl and the number of an authority record at each edge.
func TestLifetimeOfDenials(t *testing.T) {
	for _, ttl := range edges {
		for _, number := range edges {
			for _, flags := range []int{found, notFound} {
				m := denial(soa(ttl, number))
				m.Flags = flags
				checkLife(t, m, int64(min(ttl, number, 3600)))
			}
		}
	}
	for at := range 4 {
		for v := range 256 {
			number := uint32(v) << (8 * at)
			checkLife(t, denial(soa(5000, number)), int64(min(number, 3600)))
		}
	}
}

// TestDenialsWithout has messages that say nothing of their lifetime.
func TestDenialsWithout(t *testing.T) {
	for _, flags := range []int{found, notFound} {
		checkLife(t, dns.Message{Flags: flags}, 0)
		checkLife(t, dns.Message{Flags: flags, Answers: records(), Owners: records(), More: records()}, 0)
		checkLife(t, dns.Message{Flags: flags, More: records(soa(60, 60), record(1, 60, "abcd"))}, 0)
		checkLife(t, dns.Message{Flags: flags, Asked: []dns.Question{asks("a")}, Owners: records(record(2, 60, "\x02ns\x00"))}, 0)
	}
}

// TestDenialTypes has authority records of other types, which count for nothing.
func TestDenialTypes(t *testing.T) {
	types := []int{-6, -1, math.MinInt, math.MaxInt, 255, 256, 65535, 65536, 65536 + 6, 1<<32 + 6}
	for typ := range 70 {
		types = append(types, typ)
	}
	for _, typ := range types {
		x := soa(50, 40)
		x.Type = typ
		secs := int64(0)
		if typ == 6 {
			secs = 40
		}
		checkLife(t, denial(x), secs)
		if secs == 0 {
			secs = 20
		}
		checkLife(t, denial(x, soa(50, 20)), secs)
	}
	for _, class := range []int{-1, 0, 1, 2, 255, 65535, 65536} {
		x := soa(50, 40)
		x.Class = class
		checkLife(t, denial(x), 40)
	}
}

// TestDenialData has Data of all small sizes: what is too short for the number is
// passed over, and of what is longer the last bytes count.
func TestDenialData(t *testing.T) {
	const bytes = "\x01\x02\x03\x04"
	for n := range 4 {
		short := record(6, 9, bytes[:n])
		checkLife(t, denial(short), 0)
		checkLife(t, denial(short, soa(50, 40)), 40)
		checkLife(t, denial(short, record(2, 1, bytes), short, soa(30, 40), soa(1, 1)), 30)
		checkLife(t, denial(soa(50, 40), short), 40)
	}
	for n := range 300 {
		before := string(slices.Repeat([]byte{255}, n))
		checkLife(t, denial(record(6, 50, before+quad(40))), 40)
		before = string(slices.Repeat([]byte{0}, n))
		checkLife(t, denial(record(6, 5000, before+quad(0x01000000))), 3600)
		checkLife(t, denial(record(6, 5000, before+quad(0x00000100)+"\x00")), 3600)
	}
}

// TestFirstDenial has several authority records of type 6, of which the first one
// with enough Data counts.
func TestFirstDenial(t *testing.T) {
	checkLife(t, denial(soa(50, 40), soa(10, 10)), 40)
	checkLife(t, denial(soa(10, 10), soa(50, 40)), 10)
	checkLife(t, denial(soa(0, 10), soa(50, 40)), 0)
	checkLife(t, denial(soa(10, 0), soa(50, 40)), 0)
	checkLife(t, denial(soa(50, 40), soa(0, 0)), 40)
	for n := range 10 {
		l := slices.Repeat(records(record(2, 1, quad(1))), n)
		checkLife(t, denial(append(l, soa(50, 40), soa(1, 1))...), 40)
	}
}
