package cache_test

import (
	"bytes"
	"fmt"
	"math"
	"slices"
	"testing"

	"gatehouse/api"
	"gatehouse/cache"
	"gatehouse/dns"
)

// lists returns the lists of records of m.
func lists(m *dns.Message) []*[]dns.Record {
	return []*[]dns.Record{&m.Answers, &m.Owners, &m.More}
}

// labels returns the names within m.
func labels(m *dns.Message) []*[]string {
	var l []*[]string
	for i := range m.Asked {
		l = append(l, &m.Asked[i].Name)
	}
	for _, part := range lists(m) {
		for i := range *part {
			l = append(l, &(*part)[i].Name)
		}
	}
	return l
}

// data returns all Data within m.
func data(m *dns.Message) []*[]byte {
	var l []*[]byte
	for _, part := range lists(m) {
		for i := range *part {
			l = append(l, &(*part)[i].Data)
		}
	}
	return l
}

// spoil writes v over all of l and its spare capacity.
func spoil[T any](l []T, v T) {
	l = l[:cap(l)]
	for i := range l {
		l[i] = v
	}
}

// spoilAll does so to all lists of m.
func spoilAll(m dns.Message) {
	for _, l := range labels(&m) {
		spoil(*l, "spoilt")
	}
	for _, b := range data(&m) {
		spoil(*b, 0xee)
	}
	spoil(m.Asked, asks("spoilt"))
	for _, l := range lists(&m) {
		spoil(*l, record(99, 99, "spoilt", "spoilt"))
	}
}

// spacious returns l in memory that goes on behind its end with behind.
func spacious[T any](l []T, behind T) []T {
	return append(slices.Clone(l), behind, behind)[:len(l)]
}

// spaciousUsual is the usual message with spare capacity in all its lists.
func spaciousUsual() dns.Message {
	m := usual()
	for _, l := range labels(&m) {
		*l = spacious(*l, "behind")
	}
	for _, b := range data(&m) {
		*b = spacious(*b, 0xbb)
	}
	m.Asked = spacious(m.Asked, asks("behind"))
	for _, l := range lists(&m) {
		*l = spacious(*l, record(77, 77, "behind", "behind"))
	}
	return m
}

// isBehind reports whether behind still stands where spacious has put it.
func isBehind[T any](l []T, behind T, equal func(a, b T) bool) bool {
	return slices.EqualFunc(l[:len(l)+2][len(l):], []T{behind, behind}, equal)
}

func equalOnes[T comparable](a, b T) bool { return a == b }

// checkSpacious fails unless m is as spaciousUsual has made it.
func checkSpacious(t *testing.T, m dns.Message) {
	t.Helper()
	if !same(m, usual()) {
		t.Errorf("R4: the message has changed: %+v", m)
	}
	ok := isBehind(m.Asked, asks("behind"), sameQuestion)
	for _, l := range labels(&m) {
		ok = ok && isBehind(*l, "behind", equalOnes)
	}
	for _, b := range data(&m) {
		ok = ok && isBehind(*b, 0xbb, equalOnes)
	}
	for _, l := range lists(&m) {
		ok = ok && isBehind(*l, record(77, 77, "behind", "behind"), sameRecord)
	}
	if !ok {
		t.Errorf("R4: what is behind the lists of the message has changed")
	}
}

// spaciousQuestion is a question whose name has spare capacity.
func spaciousQuestion() dns.Question { return asks(spacious([]string{"www", "org"}, "behind")...) }

func checkSpaciousQuestion(t *testing.T, q dns.Question) {
	t.Helper()
	if !sameQuestion(q, asks("www", "org")) || !isBehind(q.Name, "behind", equalOnes) {
		t.Errorf("R4: the question has changed: %q", q.Name[:len(q.Name)+2])
	}
}

// TestArgumentsStayAsTheyAre has messages and questions with spare capacity, for calls
// that succeed, replace, remove and fail.
func TestArgumentsStayAsTheyAre(t *testing.T) {
	c := made(t, 1)
	m, q := spaciousUsual(), spaciousQuestion()
	for range 3 {
		checkPut(t, c, q, m, 0, true)
		checkPut(t, c, asks("other"), m, 0, true)
		checkPut(t, c, q, m, 0, true)
		checkPut(t, c, q, m, -1, false)
		checkGet(t, c, q, 1, 30, told(usual(), asks("www", "org"), 1, 30))
		checkNone(t, c, q, 60)
		c.Len(30)
		checkSpacious(t, m)
		checkSpaciousQuestion(t, q)
	}
	none := made(t, 1)
	checkNone(t, none, q, 0)
	checkSpaciousQuestion(t, q)
}

// TestArgumentsAreCopied writes over the arguments once they were handed in.
func TestArgumentsAreCopied(t *testing.T) {
	c := made(t, 2)
	m, q := spaciousUsual(), spaciousQuestion()
	checkPut(t, c, q, m, 0, true)
	spoilAll(m)
	spoil(q.Name, "spoilt")
	checkNone(t, c, q, 0)
	checkGet(t, c, asks("WWW", "org"), 1, 30, told(usual(), asks("WWW", "org"), 1, 30))
	q = spaciousQuestion()
	got, ok := c.Get(q, 1, 30)
	spoil(q.Name, "spoilt")
	if want := told(usual(), asks("www", "org"), 1, 30); !ok || !same(got, want) {
		t.Errorf("R4: the result of Get shares memory with its question: %+v", got)
	}
}

// TestSharedArguments has a message whose lists all are in the same memory.
func TestSharedArguments(t *testing.T) {
	name, bytes := []string{"www", "org"}, []byte("abcd")
	l := make([]dns.Record, 3)
	for i := range l {
		l[i] = dns.Record{Name: name, Type: 1, Class: 1, Ttl: 60, Data: bytes}
	}
	m := dns.Message{Flags: found, Answers: l, Owners: l, More: l}
	c := made(t, 1)
	checkPut(t, c, dns.Question{Name: name, Type: 1, Class: 1}, m, 0, true)
	want := told(m, asks("www", "org"), 1, 7)
	checkGet(t, c, asks("www", "org"), 1, 7, want)
	checkListsAreApart(t, c, asks("www", "org"), 7)
}

// checkListsAreApart writes over each list of a result with its spare capacity, while
// the others remain as they are.
func checkListsAreApart(t *testing.T, c *cache.Cache, q dns.Question, now int64) {
	t.Helper()
	get := func() dns.Message {
		m, ok := c.Get(q, 1, now)
		if !ok {
			t.Fatalf("P22.1: no answer to %+v at %d", q, now)
		}
		return m
	}
	want := get()
	for i := range labels(&want) {
		m := get()
		spoil(*labels(&m)[i], "spoilt")
		*labels(&m)[i] = *labels(&want)[i]
		if !same(m, want) {
			t.Errorf("R4: the name %d shares memory with others: %+v", i, m)
		}
	}
	for i := range data(&want) {
		m := get()
		spoil(*data(&m)[i], 0xee)
		*data(&m)[i] = *data(&want)[i]
		if !same(m, want) {
			t.Errorf("R4: the Data %d shares memory with others: %+v", i, m)
		}
	}
	for i := range lists(&want) {
		m := get()
		spoil(*lists(&m)[i], record(99, 99, "spoilt", "spoilt"))
		*lists(&m)[i] = *lists(&want)[i]
		if !same(m, want) {
			t.Errorf("R4: the list %d shares memory with others: %+v", i, m)
		}
	}
}

// TestResultsAreNew writes over results, which no later call tells.
func TestResultsAreNew(t *testing.T) {
	c := made(t, 2)
	checkPut(t, c, asks("www"), spaciousUsual(), 0, true)
	for secs := range int64(5) {
		first, _ := c.Get(asks("www"), 1, secs)
		second, _ := c.Get(asks("www"), 1, secs)
		spoilAll(first)
		if want := told(usual(), asks("www"), 1, secs); !same(second, want) {
			t.Errorf("R4: two results of Get share memory: %+v", second)
		}
		checkListsAreApart(t, c, asks("www"), secs)
	}
	// a result that is stored, and then written over
	m, _ := c.Get(asks("www"), 1, 5)
	checkPut(t, c, asks("copy"), m, 5, true)
	was := told(usual(), asks("www"), 1, 5)
	spoilAll(m)
	checkGet(t, c, asks("copy"), 2, 6, told(was, asks("copy"), 2, 1))
	checkGet(t, c, asks("www"), 2, 6, told(usual(), asks("www"), 2, 6))
}

// TestAppendsToResults appends to the lists of a result.
func TestAppendsToResults(t *testing.T) {
	c := made(t, 1)
	checkPut(t, c, asks("www"), spaciousUsual(), 0, true)
	m, _ := c.Get(asks("www"), 1, 0)
	for _, l := range labels(&m) {
		_ = append(*l, "more")
	}
	for _, b := range data(&m) {
		_ = append(*b, bytes.Repeat([]byte{0xee}, 50)...)
	}
	for _, l := range lists(&m) {
		_ = append(*l, record(1, 1, "more", "more"))
	}
	if want := told(usual(), asks("www"), 1, 0); !same(m, want) {
		t.Errorf("R4: the lists of a result share memory: %+v", m)
	}
	checkGet(t, c, asks("www"), 1, 1, told(usual(), asks("www"), 1, 1))
}

// TestNilAndEmpty has lists that are nil or empty, which are equivalent.
func TestNilAndEmpty(t *testing.T) {
	c := made(t, 2)
	m := answer(60)
	m.Answers[0].Name, m.Answers[0].Data = nil, nil
	checkPut(t, c, dns.Question{Name: []string{}, Type: 1}, m, 0, true)
	checkGet(t, c, dns.Question{Type: 1}, 1, 0, told(m, dns.Question{Type: 1}, 1, 0))
	m.Answers[0].Name, m.Answers[0].Data, m.Owners = []string{}, []byte{}, records()
	checkPut(t, c, dns.Question{Type: 1}, m, 0, true)
	checkLen(t, c, 0, 1)
	checkGet(t, c, dns.Question{Name: []string{}, Type: 1}, 1, 0, told(m, dns.Question{Type: 1}, 1, 0))
	checkLife(t, dns.Message{Flags: found, Answers: records(), Owners: records(soa(50, 40))}, 40)
}

// TestQuestionsChangeNothing has Get and Len between all other calls.
func TestQuestionsChangeNothing(t *testing.T) {
	times := []int64{math.MinInt64, -1, 0, 1, 29, 30, 31, 1000, api.MaxTime, math.MaxInt64}
	asked := func(c *cache.Cache) {
		for _, now := range times {
			for n := range 6 {
				c.Get(number(n), n, now)
			}
			c.Len(now)
		}
	}
	c := made(t, 3)
	asked(c)
	for n, secs := range []uint32{30, 20, 30} {
		checkPut(t, c, number(n), answer(secs), 0, true)
		asked(c)
	}
	checkLen(t, c, 19, 3)
	checkLeave(t, c, 0, 1)
	asked(c)
	checkLeave(t, c, 0, 0)
	asked(c)
	checkLeave(t, c, 0, 2)
	checkLen(t, c, 0, 3)
	asked(c)
	c.Clear()
	asked(c)
	checkLen(t, c, 0, 0)
}

// TestCachesAreApart has the same calls for several caches, and others for one.
func TestCachesAreApart(t *testing.T) {
	a, b, other := made(t, 2), made(t, 2), made(t, 2)
	for n := range 4 {
		for _, c := range []*cache.Cache{a, b} {
			checkPut(t, c, number(n), answer(uint32(60+n)), int64(n), true)
		}
		checkPut(t, other, number(n), answer(day), 0, true)
		checkPut(t, other, number(7), answer(1), 0, true)
	}
	other.Clear()
	b.Clear()
	checkLen(t, a, 5, 2)
	checkLen(t, b, 5, 0)
	checkGet(t, a, number(2), 1, 5, told(answer(62), number(2), 1, 3))
	checkGet(t, a, number(3), 1, 5, told(answer(63), number(3), 1, 2))
	checkNone(t, a, number(7), 0)
}

// TestSameCallsSameResults has the same calls for two caches.
func TestSameCallsSameResults(t *testing.T) {
	results := func() []string {
		var l []string
		d := dice(5)
		c := made(t, 4)
		for range 3000 {
			now := int64(d.roll(100))
			l = append(l, fmt.Sprint(c.Put(d.question(), d.message(), now), c.Len(now)))
			m, ok := c.Get(d.question(), d.roll(70000), now)
			l = append(l, fmt.Sprint(m, ok))
		}
		return l
	}
	if !slices.Equal(results(), results()) {
		t.Errorf("R5: other results of the same calls")
	}
}

// TestAllArguments has odd numbers for all arguments: each call ends without panic.
func TestAllArguments(t *testing.T) {
	odd := []int{math.MinInt, math.MinInt32, -1, 0, 1, 3, 6, 512, 32768, 65535, 65536, math.MaxInt32, math.MaxInt}
	for _, room := range []int{1, 2, 64} {
		c := made(t, room)
		for _, a := range odd {
			for _, b := range odd {
				for _, now := range odd {
					q := dns.Question{Name: []string{"", "a"}, Type: a, Class: b}
					c.Put(q, dns.Message{ID: b, Flags: a}, int64(now))
					c.Put(q, dns.Message{Flags: a, Owners: records(record(b, uint32(a), "abcd"))}, int64(now))
					c.Put(q, dns.Message{Flags: found, Answers: records(record(b, uint32(a), "abcd"))}, int64(now))
					c.Get(q, a, int64(now))
					if n := c.Len(int64(now)); n < 0 || n > room {
						t.Errorf("T3: Len(%d): %d of %d", now, n, room)
					}
				}
			}
		}
	}
}
