package pool_test

import (
	"bytes"
	"cmp"
	"maps"
	"math"
	"slices"
	"testing"

	"gatehouse/addr"
	"gatehouse/api"
	"gatehouse/pool"
)

// plain is the word of the chapter: what the words say of each address stands in
// maps, and each rule is asked of all addresses.
type plain struct {
	greatest int64
	inPool   map[api.Addr]bool
	home     map[api.Mac]api.Addr
	leases   map[api.Addr]pool.Lease
	told     map[api.Addr]bool
	bars     map[api.Addr]int64
}

func newPlain(first, last int, fixed []pool.Lease) *plain {
	p := &plain{inPool: map[api.Addr]bool{}, home: map[api.Mac]api.Addr{}, leases: map[api.Addr]pool.Lease{}, told: map[api.Addr]bool{}, bars: map[api.Addr]int64{}}
	for n := first; n <= last; n++ {
		p.inPool[at(n)] = true
	}
	for _, f := range fixed {
		delete(p.inPool, f.Addr)
		p.home[f.Mac] = f.Addr
	}
	return p
}

func (p *plain) at(now int64) int64 {
	if now >= 0 && now <= 1<<40 {
		p.greatest = max(p.greatest, now)
	}
	return p.greatest
}

func (p *plain) live(a api.Addr) bool { return p.greatest < p.leases[a].Until }

func (p *plain) free(a api.Addr) bool {
	return p.inPool[a] && !p.live(a) && p.greatest >= p.bars[a]
}

// least returns the least address that is so, if there is one.
func least(addrs []api.Addr, so func(a api.Addr) bool) (api.Addr, bool) {
	var l []api.Addr
	for _, a := range addrs {
		if so(a) {
			l = append(l, a)
		}
	}
	if l == nil {
		return api.Addr{}, false
	}
	return slices.MinFunc(l, func(a, b api.Addr) int { return bytes.Compare(a[:], b[:]) }), true
}

func (p *plain) of(m api.Mac, now int64) (api.Addr, bool) {
	p.at(now)
	return least(slices.Collect(maps.Keys(p.leases)), func(a api.Addr) bool { return p.live(a) && p.leases[a].Mac == m })
}

func (p *plain) offer(m api.Mac, want api.Addr, now int64) (api.Addr, api.Errno) {
	p.at(now)
	if a, ok := p.home[m]; ok {
		return a, api.OK
	}
	if a, ok := p.of(m, now); ok {
		return a, api.OK
	}
	if p.free(want) {
		return want, api.OK
	}
	free := slices.DeleteFunc(slices.Collect(maps.Keys(p.inPool)), func(a api.Addr) bool { return !p.free(a) })
	had := func(a api.Addr) bool { _, ok := p.leases[a]; return ok }
	if a, ok := least(free, func(a api.Addr) bool { return had(a) && p.leases[a].Mac == m }); ok {
		return a, api.OK
	}
	if a, ok := least(free, func(a api.Addr) bool { return !had(a) }); ok {
		return a, api.OK
	}
	if a, ok := least(free, func(a api.Addr) bool {
		return !slices.ContainsFunc(free, func(b api.Addr) bool { return p.leases[b].Until < p.leases[a].Until })
	}); ok {
		return a, api.OK
	}
	return api.Addr{}, api.EFULL
}

func (p *plain) take(m api.Mac, a api.Addr, now, secs int64) api.Errno {
	now = p.at(now)
	home, isFixed := p.home[m]
	held, holds := p.of(m, now)
	switch {
	case secs < 1 || secs > 1e9:
		return api.EARG
	case isFixed && a != home:
		return api.ETAKEN
	case !isFixed && !p.inPool[a]:
		return api.ENONE
	case !isFixed && p.live(a) && p.leases[a].Mac != m:
		return api.ETAKEN
	case !isFixed && now < p.bars[a] && !(holds && held == a):
		return api.ETAKEN
	}
	if holds && held != a {
		p.over(held)
	}
	p.leases[a] = pool.Lease{Mac: m, Addr: a, Until: now + secs}
	delete(p.told, a)
	return api.OK
}

func (p *plain) over(a api.Addr) {
	if x, ok := p.leases[a]; ok {
		x.Until = 0
		p.leases[a] = x
	}
}

func (p *plain) end(m api.Mac, a api.Addr) bool {
	x, ok := p.leases[a]
	if !ok || x.Mac != m {
		return false
	}
	p.over(a)
	return true
}

func (p *plain) bar(a api.Addr, now, secs int64) bool {
	now = p.at(now)
	if !p.inPool[a] || secs < 1 || secs > 1e9 {
		return false
	}
	p.bars[a] = now + secs
	p.over(a)
	return true
}

func (p *plain) list(so func(a api.Addr) bool) []pool.Lease {
	var l []pool.Lease
	for a, x := range p.leases {
		if so(a) {
			l = append(l, x)
		}
	}
	slices.SortFunc(l, func(x, y pool.Lease) int { return cmp.Compare(addr.Num(x.Addr), addr.Num(y.Addr)) })
	return l
}

func (p *plain) all(now int64) []pool.Lease {
	p.at(now)
	return p.list(p.live)
}

func (p *plain) tick(now int64) []pool.Lease {
	p.at(now)
	l := p.list(func(a api.Addr) bool { return !p.live(a) && !p.told[a] })
	for _, x := range l {
		p.told[x.Addr] = true
	}
	return l
}

// both is a pool and its model, with what was called so far.
type both struct {
	pool  *pool.Pool
	plain *plain
	calls []record
}

type record struct {
	name    string
	numbers [4]int64
}

// newBoth has fixed addresses in the pool, and beside it, for the MAC addresses
// from 1 on.
func newBoth(t *testing.T, first, last, count int) *both {
	t.Helper()
	var l []pool.Lease
	for i := range count {
		l = append(l, fixed(i+1, first-1+(last-first+2)*i/max(count-1, 1)))
	}
	b := &both{pool: made(t, first, last, l...), plain: newPlain(first, last, l)}
	b.called("New", first, last, int64(count), 0)
	return b
}

func (b *both) called(name string, x, y int, now, secs int64) {
	b.calls = append(b.calls, record{name, [4]int64{int64(x), int64(y), now, secs}})
}

func (b *both) check(t *testing.T, name string, same bool, got, want any) {
	t.Helper()
	if !same {
		t.Fatalf("P14.1: %s: %v instead of %v after %v", name, got, want, b.calls)
	}
}

func (b *both) offer(t *testing.T, m, want int, now int64) {
	t.Helper()
	b.called("Offer", m, want, now, 0)
	a, e := b.pool.Offer(mac(m), at(want), now)
	plainA, plainE := b.plain.offer(mac(m), at(want), now)
	b.check(t, "Offer", a == plainA && e == plainE, []any{a, e}, []any{plainA, plainE})
}

func (b *both) take(t *testing.T, m, a int, now, secs int64) {
	t.Helper()
	b.called("Take", m, a, now, secs)
	e := b.pool.Take(mac(m), at(a), now, secs)
	plainE := b.plain.take(mac(m), at(a), now, secs)
	b.check(t, "Take", e == plainE, e, plainE)
}

func (b *both) end(t *testing.T, m, a int) {
	t.Helper()
	b.called("End", m, a, 0, 0)
	ok := b.pool.End(mac(m), at(a))
	plainOk := b.plain.end(mac(m), at(a))
	b.check(t, "End", ok == plainOk, ok, plainOk)
}

func (b *both) bar(t *testing.T, a int, now, secs int64) {
	t.Helper()
	b.called("Bar", 0, a, now, secs)
	ok := b.pool.Bar(at(a), now, secs)
	plainOk := b.plain.bar(at(a), now, secs)
	b.check(t, "Bar", ok == plainOk, ok, plainOk)
}

func (b *both) tick(t *testing.T, now int64) {
	t.Helper()
	b.called("Tick", 0, 0, now, 0)
	l, plainL := b.pool.Tick(now), b.plain.tick(now)
	b.check(t, "Tick", slices.Equal(l, plainL), l, plainL)
}

// all also holds what the lists must be against each other: no two live leases
// have an address or a MAC address in common.
func (b *both) all(t *testing.T, now int64) {
	t.Helper()
	b.called("All", 0, 0, now, 0)
	l, plainL := b.pool.All(now), b.plain.all(now)
	b.check(t, "All", slices.Equal(l, plainL), l, plainL)
	addrs, macs := map[api.Addr]int{}, map[api.Mac]int{}
	for _, x := range l {
		addrs[x.Addr]++
		macs[x.Mac]++
	}
	if len(addrs) < len(l) || len(macs) < len(l) {
		t.Errorf("T3, P14.1: two live leases of one in %v", l)
	}
}

func (b *both) of(t *testing.T, m int, now int64) {
	t.Helper()
	b.called("Of", m, 0, now, 0)
	a, ok := b.pool.Of(mac(m), now)
	plainA, plainOk := b.plain.of(mac(m), now)
	b.check(t, "Of", a == plainA && ok == plainOk, []any{a, ok}, []any{plainA, plainOk})
}

// dice is a row of numbers that is the same in each run.
type dice uint64

func (d *dice) roll(n int) int {
	*d = *d*6364136223846793005 + 1442695040888963407
	return int(uint64(*d)>>33) % n
}

// oddTime returns a time that is out of range, or one that goes back.
func (d *dice) oddTime(now int64) int64 {
	odd := []int64{-1, math.MinInt64, api.MaxTime + 1, math.MaxInt64, now - 1, now - 20, now / 2, 0}
	return odd[d.roll(len(odd))]
}

func (d *dice) secs() int64 {
	if d.roll(20) > 0 {
		return int64(1 + d.roll(12))
	}
	odd := []int64{0, -1, 1_000_000_000, 1_000_000_001, math.MaxInt64, math.MinInt64, 100}
	return odd[d.roll(len(odd))]
}

// step makes a call of some kind for one of so many MAC addresses. Half of the
// addresses that are taken are those that are offered, as hosts do.
func (b *both) step(t *testing.T, d *dice, macs int, now int64) {
	t.Helper()
	m, a := d.roll(macs), d.roll(macs+4)-2
	switch kind := d.roll(100); {
	case kind < 25:
		b.offer(t, m, a, now)
	case kind < 40:
		b.take(t, m, a, now, d.secs())
	case kind < 55:
		offered, _ := b.pool.Offer(mac(m), at(a), now)
		b.offer(t, m, a, now)
		b.take(t, m, int(int32(addr.Num(offered)-addr.Num(at(0)))), now, d.secs())
	case kind < 63:
		b.end(t, m, a)
	case kind < 70:
		b.bar(t, a, now, d.secs())
	case kind < 82:
		b.tick(t, now)
	case kind < 90:
		b.all(t, now)
	default:
		b.of(t, m, now)
	}
}

// TestAgainstTheWords has long rows of calls for pools of several sizes, with fewer
// MAC addresses than addresses and with more, in which time stands, goes on, leaps
// and is odd.
func TestAgainstTheWords(t *testing.T) {
	for seed := range 300 {
		d := dice(seed)
		sizes, fixed := []int{1, 2, 3, 5, 8, 13, 64}, []int{0, 1, 2, 3, 5}
		size := sizes[seed%len(sizes)]
		b := newBoth(t, 0, size-1, min(fixed[seed%len(fixed)], size))
		macs := 1 + d.roll(2*size+3)
		now := int64(d.roll(3))
		for range 600 {
			told := now
			switch d.roll(60) {
			case 0, 1, 2, 3, 4, 5:
				now++
				told = now
			case 6:
				now += int64(d.roll(10))
				told = now
			case 7:
				told = d.oddTime(now)
			}
			b.step(t, &d, macs, told)
		}
		b.all(t, -1)
		for m := range macs {
			b.offer(t, m, -5, -1)
			b.of(t, m, -1)
		}
		b.tick(t, -1)
	}
}

// TestAllShortRows has all rows of five calls of twelve kinds, with two addresses and
// two MAC addresses.
func TestAllShortRows(t *testing.T) {
	kinds := []func(t *testing.T, b *both, now int64){
		func(t *testing.T, b *both, now int64) { b.take(t, 5, 1, now, 3) },
		func(t *testing.T, b *both, now int64) { b.take(t, 5, 2, now, 2) },
		func(t *testing.T, b *both, now int64) { b.take(t, 6, 1, now+1, 2) },
		func(t *testing.T, b *both, now int64) { b.take(t, 6, 2, now, 2) },
		func(t *testing.T, b *both, now int64) { b.offer(t, 5, 2, now) },
		func(t *testing.T, b *both, now int64) { b.end(t, 5, 1) },
		func(t *testing.T, b *both, now int64) { b.bar(t, 1, now, 1) },
		func(t *testing.T, b *both, now int64) { b.bar(t, 2, now, 3) },
		func(t *testing.T, b *both, now int64) { b.tick(t, now) },
		func(t *testing.T, b *both, now int64) { b.tick(t, now+1) },
		func(t *testing.T, b *both, now int64) { b.all(t, now+2) },
		func(t *testing.T, b *both, now int64) { b.of(t, 5, now-1) },
	}
	const length = 5
	rows := 1
	for range length {
		rows *= len(kinds)
	}
	for row := range rows {
		b := newBoth(t, 1, 2, 0)
		for rest, i := row, 0; i < length; rest, i = rest/len(kinds), i+1 {
			kinds[rest%len(kinds)](t, b, b.plain.greatest)
		}
		b.offer(t, 5, 0, -1)
		b.offer(t, 6, 0, -1)
		b.offer(t, 7, 0, -1)
		b.all(t, -1)
		b.tick(t, -1)
	}
}
