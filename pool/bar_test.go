package pool_test

import (
	"testing"

	"gatehouse/api"
	"gatehouse/pool"
)

// TestBarExample has the example of the chapter.
func TestBarExample(t *testing.T) {
	p := made(t, 1, 3)
	checkBar(t, p, 2, 8, 10, true)
	checkTake(t, p, 1, 2, 17, 5, api.ETAKEN)
	checkTake(t, p, 1, 2, 18, 5, api.OK)
	checkAll(t, p, 18, until(1, 2, 23))
}

// TestBarred has the last time at which an address is barred, and the first one
// at which it is not, for offers and takes.
func TestBarred(t *testing.T) {
	for _, start := range []int64{0, 1, 100, 1 << 32, api.MaxTime - 10} {
		for _, secs := range []int64{1, 2, 9, 10} {
			p := made(t, 1, 2)
			checkTake(t, p, 5, 2, start, 600, api.OK)
			checkBar(t, p, 1, start, secs, true)
			for now := start; now < start+secs; now++ {
				checkNoOffer(t, p, 1, 1, now)
				checkTake(t, p, 1, 1, now, 5, api.ETAKEN)
			}
			checkOffer(t, p, 1, 1, start+secs, 1)
			checkTake(t, p, 1, 1, start+secs, 5, api.OK)
			checkOf(t, p, 5, start, 2)
		}
	}
}

// TestBarEndsLeases has addresses with a live lease, with one that is over, with
// one that was reported, and without one.
func TestBarEndsLeases(t *testing.T) {
	p := made(t, 1, 4)
	checkTake(t, p, 1, 1, 0, 100, api.OK)
	checkTake(t, p, 2, 2, 0, 5, api.OK)
	checkTake(t, p, 3, 3, 0, 6, api.OK)
	checkTick(t, p, 5, until(2, 2, 5))
	for a := 1; a <= 4; a++ {
		checkBar(t, p, a, 6, 10, true)
	}
	checkAll(t, p, 6)
	checkNone(t, p, 1, 6)
	checkTick(t, p, 6, until(1, 1, 0), until(3, 3, 0))
	checkTick(t, p, 16)
	for m := 1; m <= 3; m++ {
		checkOffer(t, p, m, 0, 16, m)
		checkEnd(t, p, m, m, true)
	}
	for m := range 5 {
		checkEnd(t, p, m, 4, false)
	}
	checkOffer(t, p, 4, 0, 16, 4)
}

// TestBarredForItsOwner has the former owner of a barred address, who may not have
// it either.
func TestBarredForItsOwner(t *testing.T) {
	p := made(t, 1, 2)
	checkTake(t, p, 1, 1, 0, 100, api.OK)
	checkBar(t, p, 1, 10, 10, true)
	checkTake(t, p, 1, 1, 19, 5, api.ETAKEN)
	checkOffer(t, p, 1, 1, 19, 2)
	checkTake(t, p, 1, 2, 19, 5, api.OK)
	checkTake(t, p, 1, 1, 19, 5, api.ETAKEN)
	checkOf(t, p, 1, 19, 2)
	checkTake(t, p, 1, 1, 20, 5, api.OK)
	checkOf(t, p, 1, 20, 1)
	checkAll(t, p, 20, until(1, 1, 25))
}

// TestBarAgain has addresses that are barred again to a later time, to an earlier
// one, and when they are not barred any more.
func TestBarAgain(t *testing.T) {
	p := made(t, 1, 1)
	checkBar(t, p, 1, 0, 10, true)
	checkBar(t, p, 1, 5, 10, true)
	checkNoOffer(t, p, 1, 1, 14)
	checkBar(t, p, 1, 14, 100, true)
	checkBar(t, p, 1, 15, 2, true)
	checkNoOffer(t, p, 1, 1, 16)
	checkOffer(t, p, 1, 1, 17, 1)
	checkTake(t, p, 1, 1, 17, 50, api.OK)
	checkBar(t, p, 1, 20, 1, true)
	checkNoOffer(t, p, 1, 1, 20)
	checkTick(t, p, 20, until(1, 1, 0))
	checkOffer(t, p, 2, 1, 21, 1)
}

// TestNothingToBar has addresses beside the pool and fixed ones, with leases that
// live on.
func TestNothingToBar(t *testing.T) {
	p := made(t, 2, 5, fixed(8, 3), fixed(9, 7))
	checkTake(t, p, 8, 3, 0, 100, api.OK)
	checkTake(t, p, 9, 7, 0, 100, api.OK)
	checkTake(t, p, 1, 2, 0, 100, api.OK)
	for _, a := range []int{-100, 0, 1, 3, 6, 7, 8, 300} {
		checkBar(t, p, a, 0, 10, false)
		checkBar(t, p, a, 0, 0, false)
	}
	for _, secs := range []int64{0, -1, 1_000_000_001} {
		checkBar(t, p, 2, 0, secs, false)
	}
	checkAll(t, p, 0, until(1, 2, 100), until(8, 3, 100), until(9, 7, 100))
	checkTake(t, p, 8, 3, 0, 50, api.OK)
	checkTake(t, p, 9, 7, 0, 50, api.OK)
	checkTake(t, p, 1, 2, 0, 50, api.OK)
	checkAll(t, p, 49, until(1, 2, 50), until(8, 3, 50), until(9, 7, 50))
}

// TestBarredAreNotOver has barred addresses without a lease, which no Tick reports.
func TestBarredAreNotOver(t *testing.T) {
	p := made(t, 1, 64)
	for a := 1; a <= 64; a++ {
		checkBar(t, p, a, 0, int64(a), true)
	}
	for now := int64(0); now < 64; now++ {
		checkTick(t, p, now)
		checkAll(t, p, now)
	}
	for a := 64; a >= 1; a-- {
		checkOffer(t, p, 9, a, 64, a)
	}
}

// TestTickReportsOnce has leases that are over at several times, and ones that are
// taken again before and after they were reported.
func TestTickReportsOnce(t *testing.T) {
	p := made(t, 1, 6, fixed(9, 3), fixed(8, 9))
	for i, m := range []int{5, 4, 9, 2, 1, 6, 8} {
		a := []int{6, 5, 3, 4, 2, 1, 9}[i]
		checkTake(t, p, m, a, 0, []int64{5, 3, 5, 5, 7, 3, 3}[i], api.OK)
	}
	checkTick(t, p, 2)
	checkTick(t, p, 3, until(6, 1, 3), until(4, 5, 3), until(8, 9, 3))
	checkTick(t, p, 3)
	checkTick(t, p, 4)
	checkTake(t, p, 8, 9, 4, 1, api.OK)  // reported
	checkTake(t, p, 4, 5, 4, 2, api.OK)  // reported
	checkTake(t, p, 2, 4, 5, 9, api.OK)  // over, not reported
	checkTake(t, p, 7, 1, 5, 1, api.OK)  // reported, another's
	checkTake(t, p, 1, 2, 5, 10, api.OK) // live
	checkTick(t, p, 5, until(9, 3, 5), until(5, 6, 5), until(8, 9, 5))
	checkTick(t, p, 5)
	checkTick(t, p, 6, until(7, 1, 6), until(4, 5, 6))
	checkTick(t, p, 13)
	checkTick(t, p, 100, until(1, 2, 15), until(2, 4, 14))
	checkTick(t, p, api.MaxTime)
	for m, a := range map[int]int{7: 1, 1: 2, 9: 3, 2: 4, 4: 5, 5: 6, 8: 9} {
		checkEnd(t, p, m, a, true) // they are not removed
	}
	checkTick(t, p, api.MaxTime)
}

// TestOrderOfLists has leases whose addresses differ in each byte, and are taken in
// orders that are not theirs. Their number is prime, so that each stride goes to
// all of them.
func TestOrderOfLists(t *testing.T) {
	ascending := []api.Addr{
		{}, {0, 0, 0, 2}, {0, 0, 1, 0}, {0, 0, 255, 0}, {0, 1, 0, 0}, {9, 255, 255, 255}, {10, 0, 0, 8}, {10, 0, 0, 9}, {10, 0, 0, 10},
		{10, 0, 0, 11}, {10, 0, 0, 100}, {10, 0, 9, 0}, {10, 9, 0, 0}, {127, 255, 255, 255}, {128, 0, 0, 0}, {200, 1, 2, 3}, {255, 255, 255, 255},
	}
	for stride := 1; stride < len(ascending); stride++ {
		var fixed, all, over []pool.Lease
		for i := range ascending {
			n := i * stride % len(ascending)
			if a := ascending[n]; a[0] != 10 || a[3] > 11 || a[3] < 8 {
				fixed = append(fixed, pool.Lease{Mac: mac(n), Addr: a})
			}
		}
		p, e := pool.New(api.Addr{10, 0, 0, 8}, api.Addr{10, 0, 0, 11}, fixed)
		if e != api.OK {
			t.Fatalf("P14.1: New: %d", e)
		}
		for i := range ascending {
			n := i * stride % len(ascending)
			if e := p.Take(mac(n), ascending[n], 0, int64(5+n%2)); e != api.OK {
				t.Errorf("P14.1: Take of %v: %d", ascending[n], e)
			}
		}
		for n, a := range ascending {
			x := pool.Lease{Mac: mac(n), Addr: a, Until: int64(5 + n%2)}
			all = append(all, x)
			if n%2 == 0 {
				over = append(over, x)
			}
		}
		checkAll(t, p, 4, all...)
		checkTick(t, p, 5, over...)
	}
}

// TestOf has the example of the chapter.
func TestOf(t *testing.T) {
	p := made(t, 1, 3, fixed(9, 2), fixed(8, 7))
	checkTake(t, p, 1, 3, 5, 25, api.OK)
	checkTake(t, p, 9, 2, 5, 24, api.OK)
	checkTake(t, p, 8, 7, 5, 26, api.OK)
	checkOf(t, p, 9, 28, 2)
	checkNone(t, p, 9, 29)
	checkOf(t, p, 1, 29, 3)
	checkNone(t, p, 1, 30)
	checkOf(t, p, 8, 30, 7)
	checkNone(t, p, 8, 31)
	checkNone(t, p, 2, 31)
	checkTick(t, p, 31, until(9, 2, 29), until(1, 3, 30), until(8, 7, 31))
}

// TestMacsThatDifferLittle has MAC addresses that differ in one byte only.
func TestMacsThatDifferLittle(t *testing.T) {
	p := made(t, 0, 6)
	macs := make([]api.Mac, 7)
	for i := range 6 {
		macs[i+1][i] = 1
	}
	for i, m := range macs {
		if e := p.Take(m, at(i), 0, 9); e != api.OK {
			t.Errorf("P14.1: Take of number %d: %d", i, e)
		}
	}
	for i, m := range macs {
		if a, ok := p.Of(m, 0); a != at(i) || !ok {
			t.Errorf("P14.1: Of number %d: %v, %v", i, a, ok)
		}
		for a := range macs {
			if ok := a == i; !ok && p.End(m, at(a)) {
				t.Errorf("P14.1: End of number %d by number %d", a, i)
			}
		}
	}
}

// TestManyFixed has many more fixed addresses than there is room for in a pool.
func TestManyFixed(t *testing.T) {
	var l []pool.Lease
	for i := range 50_000 {
		n := i * 7919 % 50_000
		l = append(l, pool.Lease{Mac: api.Mac{1, 2, 3, byte(n >> 16), byte(n >> 8), byte(n)}, Addr: api.Addr{10, byte(n >> 16), byte(n >> 8), byte(n)}})
	}
	p, e := pool.New(api.Addr{10, 0, 255, 200}, api.Addr{10, 1, 0, 7}, l)
	if e != api.OK {
		t.Fatalf("P14.1: New: %d", e)
	}
	for i := range 1000 {
		x := l[i*37]
		if a, e := p.Offer(x.Mac, api.Addr{}, 0); a != x.Addr || e != api.OK {
			t.Errorf("P14.1: Offer(%v): %v, %d instead of %v", x.Mac, a, e, x.Addr)
		}
	}
	checkNoNew(t, api.Addr{10, 0, 255, 200}, api.Addr{10, 1, 0, 7}, append(l, l[25_000])...)
}
