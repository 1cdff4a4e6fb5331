package near_test

import (
	"bytes"
	"cmp"
	"maps"
	"math"
	"slices"
	"strconv"
	"testing"

	"gatehouse/addr"
	"gatehouse/api"
	"gatehouse/near"
)

// plain is the word of the chapter: the times at which addresses were learned
// and those of all requests, in two maps.
type plain struct {
	age, greatest int64
	known         map[api.Addr]plainKnown
	requested     map[api.Addr]plainRequested
}

type plainKnown struct {
	mac api.Mac
	at  int64
}

type plainRequested struct {
	packets  [][]byte
	requests []int64
}

func newPlain(age int) *plain {
	return &plain{age: int64(age), known: map[api.Addr]plainKnown{}, requested: map[api.Addr]plainRequested{}}
}

func (p *plain) at(now int64) int64 {
	if now >= 0 && now <= 1<<40 {
		p.greatest = max(p.greatest, now)
	}
	return p.greatest
}

func (p *plain) size() int { return len(p.known) + len(p.requested) }

func (p *plain) fresh(a api.Addr, now int64) bool {
	k, ok := p.known[a]
	return ok && now < k.at+p.age
}

func (p *plain) makeRoom() bool {
	if p.size() < 32 {
		return true
	}
	if len(p.known) == 0 {
		return false
	}
	first := slices.MinFunc(slices.Collect(maps.Keys(p.known)), func(a, b api.Addr) int {
		return cmp.Or(cmp.Compare(p.known[a].at, p.known[b].at), bytes.Compare(a[:], b[:]))
	})
	delete(p.known, first)
	return true
}

func (p *plain) learn(a api.Addr, m api.Mac, now int64, known bool) [][]byte {
	now = p.at(now)
	_, isKnown := p.known[a]
	r, isRequested := p.requested[a]
	if isKnown || isRequested || known && p.makeRoom() {
		delete(p.requested, a)
		p.known[a] = plainKnown{m, now}
	}
	return r.packets
}

func (p *plain) want(a api.Addr, b []byte, now int64) near.Next {
	now = p.at(now)
	if p.fresh(a, now) {
		return near.Next{Mac: p.known[a].mac, Known: true}
	}
	delete(p.known, a)
	r, isRequested := p.requested[a]
	if !isRequested && !p.makeRoom() {
		return near.Next{}
	}
	if len(r.packets) < 4 {
		r.packets = append(slices.Clip(r.packets), b)
	}
	ask := !isRequested || now > r.requests[len(r.requests)-1]
	if ask {
		r.requests = append(slices.Clip(r.requests), now)
	}
	p.requested[a] = r
	return near.Next{Ask: ask}
}

func (p *plain) tick(now int64) []api.Addr {
	now = p.at(now)
	maps.DeleteFunc(p.known, func(a api.Addr, _ plainKnown) bool { return !p.fresh(a, now) })
	var asked []api.Addr
	for a, r := range maps.Clone(p.requested) {
		switch {
		case r.requests[len(r.requests)-1] >= now:
		case len(r.requests) >= 3:
			delete(p.requested, a)
		default:
			r.requests = append(slices.Clip(r.requests), now)
			p.requested[a] = r
			asked = append(asked, a)
		}
	}
	slices.SortFunc(asked, func(a, b api.Addr) int { return bytes.Compare(a[:], b[:]) })
	return asked
}

func (p *plain) mac(a api.Addr, now int64) (api.Mac, bool) {
	now = p.at(now)
	if !p.fresh(a, now) {
		return api.Mac{}, false
	}
	return p.known[a].mac, true
}

// both is a table and its model, with what was called so far.
type both struct {
	table *near.Table
	plain *plain
	calls []string
}

func newBoth(t *testing.T, age int) *both {
	t.Helper()
	return &both{table: made(t, age), plain: newPlain(age), calls: []string{"New(" + strconv.Itoa(age) + ")"}}
}

func (b *both) called(name string, a api.Addr, now int64) {
	b.calls = append(b.calls, name+"("+addr.Text(a)+", "+strconv.FormatInt(now, 10)+")")
}

func (b *both) wrong(t *testing.T, promise string, got, want any) {
	t.Helper()
	t.Fatalf("%s: %v instead of %v after %v", promise, got, want, b.calls)
}

func (b *both) learn(t *testing.T, a api.Addr, m api.Mac, now int64, known bool) {
	t.Helper()
	b.called("Learn "+strconv.FormatBool(known), a, now)
	want := b.plain.learn(a, m, now, known)
	if got := b.table.Learn(a, m, now, known); !samePackets(got, want) {
		b.wrong(t, "P11.1: Learn", got, want)
	}
}

func (b *both) want(t *testing.T, a api.Addr, packet []byte, now int64) {
	t.Helper()
	b.called("Want", a, now)
	want := b.plain.want(a, bytes.Clone(packet), now)
	if got := b.table.Want(a, packet, now); got != want {
		b.wrong(t, "P11.1: Want", got, want)
	}
}

func (b *both) tick(t *testing.T, now int64) {
	t.Helper()
	b.called("Tick", api.Addr{}, now)
	want := b.plain.tick(now)
	if got := b.table.Tick(now); !slices.Equal(got, want) {
		b.wrong(t, "P11.2: Tick", got, want)
	}
}

func (b *both) mac(t *testing.T, a api.Addr, now int64) {
	t.Helper()
	b.called("Mac", a, now)
	want, wantOk := b.plain.mac(a, now)
	if got, ok := b.table.Mac(a, now); got != want || ok != wantOk {
		b.wrong(t, "P11.2: Mac", got, want)
	}
}

func (b *both) forget() {
	b.called("Forget", api.Addr{}, 0)
	clear(b.plain.requested)
	b.table.Forget()
}

func (b *both) size(t *testing.T) {
	t.Helper()
	if got := b.table.Len(); got != b.plain.size() {
		b.wrong(t, "P11.2: Len", got, b.plain.size())
	}
}

// dice is a row of numbers that is the same in each run.
type dice uint64

func (d *dice) roll(n int) int {
	*d = *d*6364136223846793005 + 1442695040888963407
	return int(uint64(*d)>>33) % n
}

// oddTime returns a time that is out of range, or one that goes back.
func (d *dice) oddTime(now int64) int64 {
	odd := []int64{-1, math.MinInt64, api.MaxTime + 1, math.MaxInt64, now - 1, now - 20, now / 2, 0}
	return odd[d.roll(len(odd))]
}

// step makes a call of some kind for one of so many addresses.
func (b *both) step(t *testing.T, d *dice, addrs int, now int64) {
	t.Helper()
	a, m := at(d.roll(addrs)), mac(d.roll(1<<16))
	switch kind := d.roll(100); {
	case kind < 30:
		b.learn(t, a, m, now, kind < 18)
	case kind < 75:
		b.want(t, a, noise(d.roll(6), d.roll(256)), now)
	case kind < 90:
		b.mac(t, a, now)
	case kind < 98:
		b.tick(t, now)
	default:
		b.forget()
	}
	b.size(t)
}

// TestAgainstTheWords has long rows of calls, with few addresses and with more
// than there is room for, in which time stands, goes on, leaps and is odd.
func TestAgainstTheWords(t *testing.T) {
	for seed := range 300 {
		d := dice(seed)
		ages, counts := []int{1, 2, 3, 7, 20, 60, 600}, []int{1, 3, 31, 32, 33, 40, 70, 200}
		b, addrs := newBoth(t, ages[seed%len(ages)]), counts[seed%len(counts)]
		now := int64(d.roll(3))
		for range 600 {
			told := now
			switch d.roll(60) {
			case 0, 1, 2, 3, 4, 5:
				now++
				told = now
			case 6:
				now += int64(d.roll(10))
				told = now
			case 7:
				told = d.oddTime(now)
			}
			b.step(t, &d, addrs, told)
		}
		for i := range addrs {
			b.mac(t, at(i), -1)
		}
		for i := range addrs {
			b.learn(t, at(i), mac(i), -1, false)
		}
		b.size(t)
	}
}

// TestAllShortRows has all rows of five calls of twelve kinds, with two
// addresses and an age of 2.
func TestAllShortRows(t *testing.T) {
	kinds := []func(t *testing.T, b *both, now int64){
		func(t *testing.T, b *both, now int64) { b.learn(t, at(1), mac(1), now, true) },
		func(t *testing.T, b *both, now int64) { b.learn(t, at(1), mac(2), now+1, false) },
		func(t *testing.T, b *both, now int64) { b.want(t, at(1), []byte("a"), now) },
		func(t *testing.T, b *both, now int64) { b.want(t, at(1), []byte("b"), now+1) },
		func(t *testing.T, b *both, now int64) { b.want(t, at(2), []byte("c"), now) },
		func(t *testing.T, b *both, now int64) { b.want(t, at(2), nil, now+2) },
		func(t *testing.T, b *both, now int64) { b.tick(t, now) },
		func(t *testing.T, b *both, now int64) { b.tick(t, now+1) },
		func(t *testing.T, b *both, now int64) { b.mac(t, at(1), now+1) },
		func(t *testing.T, b *both, now int64) { b.mac(t, at(1), now+2) },
		func(t *testing.T, b *both, now int64) { b.tick(t, now-1) },
		func(t *testing.T, b *both, now int64) { b.forget() },
	}
	const length = 5
	rows := 1
	for range length {
		rows *= len(kinds)
	}
	for row := range rows {
		b := newBoth(t, 2)
		for rest, i := row, 0; i < length; rest, i = rest/len(kinds), i+1 {
			kinds[rest%len(kinds)](t, b, b.plain.greatest)
			b.size(t)
		}
		b.learn(t, at(1), mac(3), -1, false)
		b.learn(t, at(2), mac(4), -1, false)
	}
}
