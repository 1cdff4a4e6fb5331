package pool_test

import (
	"math"
	"slices"
	"testing"

	"gatehouse/api"
	"gatehouse/pool"
)

// calls are those that have a time, so that each of them lets it go by, even if
// it returns an error, finds nothing or changes nothing.
var calls = []struct {
	name string
	call func(p *pool.Pool, now int64)
}{
	{"Offer", func(p *pool.Pool, now int64) { p.Offer(mac(50), at(9), now) }},
	{"Offer of a fixed one", func(p *pool.Pool, now int64) { p.Offer(mac(9), at(9), now) }},
	{"Offer of the live one", func(p *pool.Pool, now int64) { p.Offer(mac(1), at(9), now) }},
	{"Take", func(p *pool.Pool, now int64) { p.Take(mac(50), at(4), now, 1) }},
	{"Take with EARG", func(p *pool.Pool, now int64) { p.Take(mac(50), at(4), now, 0) }},
	{"Take with ENONE", func(p *pool.Pool, now int64) { p.Take(mac(50), at(40), now, 1) }},
	{"Take with ETAKEN", func(p *pool.Pool, now int64) { p.Take(mac(9), at(4), now, 1) }},
	{"Bar", func(p *pool.Pool, now int64) { p.Bar(at(4), now, 1) }},
	{"Bar of none", func(p *pool.Pool, now int64) { p.Bar(at(40), now, 1) }},
	{"Bar with wrong secs", func(p *pool.Pool, now int64) { p.Bar(at(4), now, 0) }},
	{"Tick", func(p *pool.Pool, now int64) { p.Tick(now) }},
	{"All", func(p *pool.Pool, now int64) { p.All(now) }},
	{"Of", func(p *pool.Pool, now int64) { p.Of(mac(1), now) }},
	{"Of none", func(p *pool.Pool, now int64) { p.Of(mac(50), now) }},
}

// TestTimesDoNotDecrease has, after each call at 109, times that are less or out
// of range: they count as 109, and not as the last one in range.
func TestTimesDoNotDecrease(t *testing.T) {
	odd := []int64{108, 100, 1, 0, -1, -109, math.MinInt64, api.MaxTime + 1, api.MaxTime + 110, 1 << 50, math.MaxInt64}
	for _, c := range calls {
		for _, now := range odd {
			p := made(t, 1, 4, fixed(9, 7))
			checkTake(t, p, 1, 1, 10, 100, api.OK)
			checkBar(t, p, 2, 20, 90, true)
			checkTake(t, p, 3, 3, 30, 79, api.OK)
			c.call(p, 109)
			checkOf(t, p, 1, now, 1)
			if l := p.All(now); !slices.Contains(l, until(1, 1, 110)) || slices.Contains(l, until(3, 3, 109)) {
				t.Errorf("P14.1: All(%d) after %s at 109: %v", now, c.name, l)
			}
			checkNone(t, p, 3, now)
			checkTake(t, p, 5, 2, now, 5, api.ETAKEN)
			checkOffer(t, p, 5, 3, now, 3)
			checkTake(t, p, 5, 3, now, 5, api.OK)
			checkOf(t, p, 5, now, 3)
			checkOf(t, p, 5, 113, 3)
			checkNone(t, p, 5, 114)
			checkBar(t, p, 3, now, 6, true)
			checkTake(t, p, 5, 3, 119, 6, api.ETAKEN)
			checkTake(t, p, 5, 3, 120, 6, api.OK)
			if l := p.Tick(now); !slices.Contains(l, until(1, 1, 110)) {
				t.Errorf("P14.1: Tick(%d) after %s at 109: %v", now, c.name, l)
			}
		}
	}
}

// TestTimesCount has the times of calls, which later ones at 0 are at.
func TestTimesCount(t *testing.T) {
	for _, c := range calls {
		p := made(t, 1, 4, fixed(9, 7))
		checkTake(t, p, 1, 1, 0, 100, api.OK)
		checkBar(t, p, 2, 0, 101, true)
		checkBar(t, p, 3, 0, 300, true)
		c.call(p, 99)
		checkOf(t, p, 1, 0, 1)
		c.call(p, 100)
		checkNone(t, p, 1, 0)
		checkTake(t, p, 2, 2, 0, 5, api.ETAKEN)
		c.call(p, 101)
		checkTake(t, p, 2, 2, 0, 5, api.OK)
		if l := p.All(0); !slices.Contains(l, until(2, 2, 106)) {
			t.Errorf("P14.1: All(0) after %s at 101: %v", c.name, l)
		}
	}
}

// TestFirstTimes has times out of range before all others: none was greater, so
// that they count as 0.
func TestFirstTimes(t *testing.T) {
	for _, now := range []int64{-1, math.MinInt64, api.MaxTime + 1, math.MaxInt64, 0} {
		p := made(t, 1, 3)
		checkOffer(t, p, 1, 0, now, 1)
		checkTake(t, p, 1, 1, now, 10, api.OK)
		checkBar(t, p, 2, now, 10, true)
		checkTick(t, p, now)
		checkAll(t, p, now, until(1, 1, 10))
		checkOf(t, p, 1, 9, 1)
		checkTake(t, p, 2, 2, 9, 5, api.ETAKEN)
		checkNone(t, p, 1, 10)
		checkTake(t, p, 2, 2, 10, 5, api.OK)
	}
}

// TestLastTimes has the greatest time that counts, and Untils beyond it, at which
// no lease is over any more.
func TestLastTimes(t *testing.T) {
	p := made(t, 1, 4)
	checkTake(t, p, 1, 1, api.MaxTime-10, 10, api.OK)
	checkTake(t, p, 2, 2, api.MaxTime-10, 11, api.OK)
	checkBar(t, p, 3, api.MaxTime-10, 10, true)
	checkBar(t, p, 4, api.MaxTime-10, 11, true)
	checkOf(t, p, 1, api.MaxTime-1, 1)
	checkTake(t, p, 3, 3, api.MaxTime+1, 5, api.ETAKEN)
	checkTick(t, p, api.MaxTime+1)
	checkTick(t, p, api.MaxTime, until(1, 1, api.MaxTime))
	for _, now := range []int64{api.MaxTime, api.MaxTime + 1, math.MaxInt64} {
		checkNone(t, p, 1, now)
		checkOf(t, p, 2, now, 2)
		checkOffer(t, p, 3, 4, now, 3)
		checkTick(t, p, now)
	}
	checkTake(t, p, 3, 3, math.MaxInt64, 1_000_000_000, api.OK)
	checkAll(t, p, math.MaxInt64, until(2, 2, api.MaxTime+1), until(3, 3, api.MaxTime+1_000_000_000))
}

// TestErrorsChangeNothing has leases of each kind, and all calls that return an
// error or false.
func TestErrorsChangeNothing(t *testing.T) {
	p := made(t, 1, 5, fixed(8, 4), fixed(9, 7))
	checkTake(t, p, 1, 1, 0, 100, api.OK)
	checkTake(t, p, 2, 2, 0, 5, api.OK)
	checkTake(t, p, 4, 3, 0, 6, api.OK)
	checkTake(t, p, 9, 7, 0, 100, api.OK)
	checkTick(t, p, 5, until(2, 2, 5))
	checkBar(t, p, 5, 5, 50, true)
	for m := range 10 {
		for a := range 10 {
			checkTake(t, p, m, a, 6, 0, api.EARG)
			checkBar(t, p, a, 6, 0, false)
			switch {
			case m >= 8 && a != 3*m%10:
				checkTake(t, p, m, a, 6, 5, api.ETAKEN)
			case m < 8 && (a == 0 || a == 4 || a > 5):
				checkTake(t, p, m, a, 6, 5, api.ENONE)
				checkBar(t, p, a, 6, 5, false)
			case m < 8 && a == 5, m > 1 && m < 8 && a == 1:
				checkTake(t, p, m, a, 6, 5, api.ETAKEN)
			}
			if owners := map[int]int{1: 1, 2: 2, 3: 4, 7: 9}; owners[a] != m || a == 0 {
				checkEnd(t, p, m, a, false)
			}
		}
	}
	checkAll(t, p, 6, until(1, 1, 100), until(9, 7, 100))
	checkOffer(t, p, 4, 0, 6, 3)
	checkOffer(t, p, 2, 0, 6, 2)
	checkTick(t, p, 6, until(4, 3, 6))
	checkTake(t, p, 3, 5, 54, 1, api.ETAKEN)
	checkTake(t, p, 3, 5, 55, 1, api.OK)
}

// TestFixedIsCopied has a list with spare capacity that is looked at, and written
// over after it was handed in.
func TestFixedIsCopied(t *testing.T) {
	backing := []pool.Lease{until(1, 9, 7), until(3, 4, 6), until(2, 3, 5), until(5, 2, 4), until(4, 1, 3)}
	before := slices.Clone(backing)
	p := made(t, 1, 6, backing[:3]...)
	q, e := pool.New(at(1), at(6), backing[1:3])
	if e != api.OK || !slices.Equal(backing, before) {
		t.Errorf("R4: New changed its argument to %v", backing)
	}
	checkNoNew(t, at(1), at(0), backing[:2]...)
	checkNoNew(t, at(1), at(3), append(backing[:3:3], backing[0])...)
	if !slices.Equal(backing, before) {
		t.Errorf("R4: New changed its argument to %v", backing)
	}
	for i := range backing {
		backing[i] = until(7, 5, 50)
	}
	checkOffer(t, p, 1, 1, 0, 9)
	checkOffer(t, p, 3, 1, 0, 4)
	checkOffer(t, p, 2, 1, 0, 3)
	checkOffer(t, p, 7, 0, 0, 1)
	checkOffer(t, q, 1, 0, 0, 1)
	checkOffer(t, q, 3, 0, 0, 4)
	for m := range 8 {
		p.Take(mac(m), at(m), 0, 5)
	}
	p.Take(mac(1), at(9), 0, 5)
	for i := range backing {
		if backing[i] != until(7, 5, 50) {
			t.Errorf("R4: the pool shares memory with the argument: %v", backing)
		}
	}
}

// TestNilIsEmpty has no fixed addresses in both ways.
func TestNilIsEmpty(t *testing.T) {
	for _, none := range [][]pool.Lease{nil, {}, make([]pool.Lease, 0, 5)} {
		p, e := pool.New(at(1), at(2), none)
		if e != api.OK {
			t.Errorf("R4: New: %d", e)
		}
		checkOffer(t, p, 0, 0, 0, 1)
	}
}

// TestResultsAreNew has lists of results that are written over with all of their
// spare capacity.
func TestResultsAreNew(t *testing.T) {
	for count := 1; count < 20; count++ {
		p := made(t, 1, 20)
		var live, over []pool.Lease
		for i := 1; i <= count; i++ {
			checkTake(t, p, i, i, 0, 5, api.OK)
			live = append(live, until(i, i, 5))
			over = append(over, until(i, i, 0))
		}
		for range 2 {
			l := p.All(0)
			if !slices.Equal(l, live) {
				t.Errorf("P14.1, R4: All: %v instead of %v", l, live)
			}
			spoil(l)
		}
		checkAll(t, p, 0, live...)
		l := p.Tick(5)
		if !slices.Equal(l, live) {
			t.Errorf("P14.1, R4: Tick: %v instead of %v", l, live)
		}
		spoil(l)
		checkTick(t, p, 5)
		for i := 1; i <= count; i++ {
			checkTake(t, p, i, i, 5, 5, api.OK)
			checkEnd(t, p, i, i, true)
		}
		checkTick(t, p, 5, over...)
	}
}

func spoil(l []pool.Lease) {
	l = l[:cap(l)]
	for i := range l {
		l[i] = until(99, 98, 97)
	}
}

// TestPoolsShareNothing has pools that are called by turns, and others at the same
// time: each of them does what it would do alone.
func TestPoolsShareNothing(t *testing.T) {
	for seed := range 8 {
		t.Run("pools", func(t *testing.T) {
			t.Parallel()
			d := dice(1000 + seed)
			pools := []*both{newBoth(t, 1, 5, 0), newBoth(t, 1, 5, 2), newBoth(t, 3, 12, 3)}
			for range 2000 {
				b := pools[d.roll(len(pools))]
				b.step(t, &d, 10, b.plain.greatest+int64(d.roll(8)/7))
			}
		})
	}
}
