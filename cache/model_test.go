package cache_test

import (
	"cmp"
	"encoding/binary"
	"maps"
	"slices"
	"strings"
	"testing"

	"gatehouse/cache"
	"gatehouse/dns"
)

// plain is the word of the chapter: each answer tells which one it was of all that
// were stored.
type plain struct {
	room, stored int
	has          map[asked]one
}

// asked is a question with small letters only.
type asked struct {
	name        string
	kind, class int
}

type one struct {
	message   dns.Message
	at        int
	from, end int64
}

func keyOf(q dns.Question) asked {
	small := []byte(strings.Join(q.Name, "|"))
	for i, b := range small {
		if 'A' <= b && b <= 'Z' {
			small[i] = b - 'A' + 'a'
		}
	}
	return asked{string(small), q.Type, q.Class}
}

// plainLife is the lifetime as the chapter tells it.
func plainLife(m dns.Message) int64 {
	l := []uint32{86400}
	for _, x := range m.Answers {
		l = append(l, x.Ttl)
	}
	if len(m.Answers) == 0 {
		l = []uint32{0}
		i := slices.IndexFunc(m.Owners, func(x dns.Record) bool { return x.Type == 6 && len(x.Data) > 3 })
		if i >= 0 {
			x := m.Owners[i]
			l = []uint32{3600, x.Ttl, binary.BigEndian.Uint32(x.Data[len(x.Data)-4:])}
		}
	}
	return int64(slices.Min(l))
}

func (p *plain) put(q dns.Question, m dns.Message, now int64) bool {
	if now < 0 || now > 1<<40 || m.Flags>>15&1 == 0 || m.Flags>>9&1 == 1 || m.Flags%16 != 0 && m.Flags%16 != 3 || plainLife(m) == 0 {
		return false
	}
	k := keyOf(q)
	if _, ok := p.has[k]; !ok && len(p.has) == p.room {
		first := slices.MinFunc(slices.Collect(maps.Keys(p.has)), func(a, b asked) int {
			return cmp.Or(cmp.Compare(p.has[a].end, p.has[b].end), cmp.Compare(p.has[a].at, p.has[b].at))
		})
		delete(p.has, first)
	}
	p.stored++
	p.has[k] = one{message: m, at: p.stored, from: now, end: now + plainLife(m)}
	return true
}

func (p *plain) get(q dns.Question, id int, now int64) (dns.Message, bool) {
	x, ok := p.has[keyOf(q)]
	if !ok || now < x.from || now >= x.end {
		return dns.Message{}, false
	}
	return told(x.message, q, id, now-x.from), true
}

func (p *plain) size(now int64) int {
	n := 0
	for _, x := range p.has {
		if now >= x.from && now < x.end {
			n++
		}
	}
	return n
}

// both is a cache and its model, with what was called so far.
type both struct {
	cache *cache.Cache
	plain *plain
	calls []any
}

func newBoth(t *testing.T, room int) *both {
	t.Helper()
	return &both{cache: made(t, room), plain: &plain{room: room, has: map[asked]one{}}}
}

func (b *both) put(t *testing.T, q dns.Question, m dns.Message, now int64) {
	t.Helper()
	b.calls = append(b.calls, "Put", q, m, now)
	if ok, is := b.cache.Put(q, m, now), b.plain.put(q, m, now); ok != is {
		t.Fatalf("P22.1: %v instead of %v after %+v", ok, is, b.calls)
	}
}

func (b *both) get(t *testing.T, q dns.Question, id int, now int64) bool {
	t.Helper()
	m, ok := b.cache.Get(q, id, now)
	want, is := b.plain.get(q, id, now)
	if ok != is || !same(m, want) {
		t.Fatalf("P22.1: Get of %+v with the id %d at %d: %+v, %v instead of %+v, %v after %+v", q, id, now, m, ok, want, is, b.calls)
	}
	return ok
}

func (b *both) clear() {
	b.calls = append(b.calls, "Clear")
	b.cache.Clear()
	clear(b.plain.has)
}

func (b *both) size(t *testing.T, now int64) {
	t.Helper()
	if n, is := b.cache.Len(now), b.plain.size(now); n != is {
		t.Fatalf("P22.1: Len(%d): %d instead of %d after %+v", now, n, is, b.calls)
	}
}

// dice is a row of numbers that is the same in each run.
type dice uint64

func (d *dice) roll(n int) int {
	*d = *d*6364136223846793005 + 1442695040888963407
	return int(uint64(*d)>>33) % n
}

func pick[T any](d *dice, l ...T) T { return l[d.roll(len(l))] }

func (d *dice) name() []string {
	return pick(d, nil, []string{"a"}, []string{"A"}, []string{"b"}, []string{"a", "b"}, []string{"B", "A"}, []string{"a\xc4b"}, []string{"A\xe4B"}, []string{"@"}, []string{"`"})
}

func (d *dice) question() dns.Question {
	return dns.Question{Name: d.name(), Type: pick(d, 1, 1, 28), Class: pick(d, 1, 1, 1, 3)}
}

func (d *dice) record() dns.Record {
	data := []byte("abcdefgh"[:pick(d, 0, 3, 4, 8)])
	if d.roll(3) > 0 {
		data = append(data, 0, 0, 0, byte(d.roll(60)))
	}
	ttl := pick(d, uint32(d.roll(60)), uint32(d.roll(60)), 5000, 100000)
	return dns.Record{Name: d.name(), Type: pick(d, 1, 2, 6, 6), Class: 1, Ttl: ttl, Data: data}
}

// records returns so many records or fewer.
func (d *dice) records(most int) []dns.Record {
	var l []dns.Record
	for range d.roll(most + 1) {
		l = append(l, d.record())
	}
	return l
}

// message returns one that mostly may be stored.
func (d *dice) message() dns.Message {
	flags := pick(d, found, found, found, notFound, notFound, found+128, found+1024+256)
	if d.roll(10) == 0 {
		flags = d.roll(65536)
	}
	m := dns.Message{ID: d.roll(65536), Flags: flags, Owners: d.records(3), More: d.records(2)}
	if d.roll(2) == 0 {
		m.Answers = d.records(3)
	}
	return m
}

// TestAgainstTheWords has long rows of calls for caches of several rooms, with times
// that mostly increase.
func TestAgainstTheWords(t *testing.T) {
	gets, answers := 0, 0
	for seed := range 300 {
		d := dice(seed)
		b := newBoth(t, pick(&d, 1, 2, 3, 5, 8, 20, 64))
		now := int64(d.roll(50))
		for range 300 {
			now += pick[int64](&d, 0, 0, 0, 1, 1, 7)
			if d.roll(100) == 0 {
				b.clear()
			}
			at := now
			if d.roll(20) == 0 {
				at += int64(d.roll(200) - 100)
			}
			b.put(t, d.question(), d.message(), at)
			for range 3 {
				gets++
				if b.get(t, d.question(), d.roll(1<<17), now+pick[int64](&d, 0, 0, 0, -1, 20, -20)) {
					answers++
				}
				b.size(t, now+int64(d.roll(41)-20))
			}
		}
	}
	if answers < gets/20 {
		t.Errorf("only %d of %d times an answer", answers, gets)
	}
}

// rows returns how many rows of so many calls there are.
func rows(kinds, length int) int {
	n := 1
	for range length {
		n *= kinds
	}
	return n
}

// TestAllShortRows has all rows of four calls for three questions and a fifth one for
// another question, in caches for two and three answers.
func TestAllShortRows(t *testing.T) {
	questions := []dns.Question{asks("a"), asks("b"), asks("A", "b")}
	var kinds []func(t *testing.T, b *both)
	for _, q := range questions {
		for _, secs := range []uint32{1, 2} {
			for _, now := range []int64{0, 1} {
				kinds = append(kinds, func(t *testing.T, b *both) { b.put(t, q, answer(secs), now) })
			}
		}
	}
	kinds = append(kinds,
		func(t *testing.T, b *both) { b.put(t, asks("B"), denial(soa(3, 2)), 0) },
		func(t *testing.T, b *both) { b.put(t, questions[0], answer(0), 0) },
		func(_ *testing.T, b *both) { b.clear() })
	const length = 4
	for row := range rows(len(kinds), length) {
		b := newBoth(t, 2+row%2)
		for rest, i := row, 0; i < length; rest, i = rest/len(kinds), i+1 {
			kinds[rest%len(kinds)](t, b)
		}
		b.put(t, asks("new"), answer(4), 0)
		for now := range int64(4) {
			b.size(t, now)
			for _, q := range questions {
				b.get(t, q, row, now)
			}
		}
	}
}
