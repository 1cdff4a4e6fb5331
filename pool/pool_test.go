package pool_test

import (
	"math"
	"slices"
	"testing"

	"gatehouse/addr"
	"gatehouse/api"
	"gatehouse/pool"
)

// at returns the address number n, of which those from 240 on have another third
// byte than those below 240.
func at(n int) api.Addr { return addr.Of(uint32(0x0a000010 + n)) }

func mac(n int) api.Mac { return api.Mac{byte(n), 3, 5, 7, byte(n >> 8), byte(n ^ 0xa5)} }

// fixed returns the fixed address number n of the MAC address number m.
func fixed(m, n int) pool.Lease { return pool.Lease{Mac: mac(m), Addr: at(n)} }

// until returns the lease of the address number n for the MAC address number m.
func until(m, n int, end int64) pool.Lease { return pool.Lease{Mac: mac(m), Addr: at(n), Until: end} }

func made(t *testing.T, first, last int, fixed ...pool.Lease) *pool.Pool {
	t.Helper()
	p, e := pool.New(at(first), at(last), fixed)
	if e != api.OK || p == nil {
		t.Fatalf("P14.1: New(%v, %v, %v): %v, %d", at(first), at(last), fixed, p, e)
	}
	return p
}

func checkNoNew(t *testing.T, first, last api.Addr, fixed ...pool.Lease) {
	t.Helper()
	if p, e := pool.New(first, last, fixed); p != nil || e != api.EARG {
		t.Errorf("P14.1, R2: New(%v, %v, %v): %v, %d instead of EARG", first, last, fixed, p, e)
	}
}

func checkOffer(t *testing.T, p *pool.Pool, m, want int, now int64, is int) {
	t.Helper()
	if a, e := p.Offer(mac(m), at(want), now); a != at(is) || e != api.OK {
		t.Errorf("P14.1: Offer(%d, %v, %d): %v, %d instead of %v", m, at(want), now, a, e, at(is))
	}
}

func checkNoOffer(t *testing.T, p *pool.Pool, m, want int, now int64) {
	t.Helper()
	if a, e := p.Offer(mac(m), at(want), now); a != (api.Addr{}) || e != api.EFULL {
		t.Errorf("P14.1, R2: Offer(%d, %v, %d): %v, %d instead of EFULL", m, at(want), now, a, e)
	}
}

func checkTake(t *testing.T, p *pool.Pool, m, a int, now, secs int64, is api.Errno) {
	t.Helper()
	if e := p.Take(mac(m), at(a), now, secs); e != is {
		t.Errorf("P14.1: Take(%d, %v, %d, %d): %d instead of %d", m, at(a), now, secs, e, is)
	}
}

func checkEnd(t *testing.T, p *pool.Pool, m, a int, is bool) {
	t.Helper()
	if ok := p.End(mac(m), at(a)); ok != is {
		t.Errorf("P14.1: End(%d, %v): %v instead of %v", m, at(a), ok, is)
	}
}

func checkBar(t *testing.T, p *pool.Pool, a int, now, secs int64, is bool) {
	t.Helper()
	if ok := p.Bar(at(a), now, secs); ok != is {
		t.Errorf("P14.1: Bar(%v, %d, %d): %v instead of %v", at(a), now, secs, ok, is)
	}
}

func checkTick(t *testing.T, p *pool.Pool, now int64, want ...pool.Lease) {
	t.Helper()
	if l := p.Tick(now); !slices.Equal(l, want) {
		t.Errorf("P14.1: Tick(%d): %v instead of %v", now, l, want)
	}
}

func checkAll(t *testing.T, p *pool.Pool, now int64, want ...pool.Lease) {
	t.Helper()
	if l := p.All(now); !slices.Equal(l, want) {
		t.Errorf("P14.1: All(%d): %v instead of %v", now, l, want)
	}
}

func checkOf(t *testing.T, p *pool.Pool, m int, now int64, is int) {
	t.Helper()
	if a, ok := p.Of(mac(m), now); a != at(is) || !ok {
		t.Errorf("P14.1: Of(%d, %d): %v, %v instead of %v", m, now, a, ok, at(is))
	}
}

func checkNone(t *testing.T, p *pool.Pool, m int, now int64) {
	t.Helper()
	if a, ok := p.Of(mac(m), now); a != (api.Addr{}) || ok {
		t.Errorf("P14.1, R2: Of(%d, %d): %v, %v instead of none", m, now, a, ok)
	}
}

// TestSizes has pools of all sizes, at the ends of all addresses too: each of them
// gives all its addresses in order, and then none.
func TestSizes(t *testing.T) {
	for _, last := range []uint32{64, 255, 256, 0x0a000110, 0x7fffffff, 0x80000020, math.MaxUint32} {
		for size := uint32(1); size <= 64; size++ {
			p, e := pool.New(addr.Of(last-size+1), addr.Of(last), nil)
			if e != api.OK {
				t.Fatalf("P14.1: New of %d addresses: %d", size, e)
			}
			for i := range size {
				m, want := mac(int(i)), addr.Of(last-size+1+i)
				if a, e := p.Offer(m, api.Addr{}, 0); a != want || e != api.OK {
					t.Fatalf("P14.1: Offer of number %d of %d: %v, %d instead of %v", i, size, a, e, want)
				}
				if e := p.Take(m, want, 0, 9); e != api.OK {
					t.Fatalf("P14.1: Take of number %d of %d: %d", i, size, e)
				}
			}
			if a, e := p.Offer(mac(999), api.Addr{}, 0); a != (api.Addr{}) || e != api.EFULL {
				t.Errorf("P14.1: Offer of none of %d: %v, %d", size, a, e)
			}
			for _, a := range []api.Addr{addr.Of(last - size), addr.Of(last + 1)} {
				if e := p.Take(mac(999), a, 0, 9); e != api.ENONE {
					t.Errorf("P14.1: Take beside %d addresses: %d", size, e)
				}
			}
		}
	}
}

func TestWrongSizes(t *testing.T) {
	for _, first := range []uint32{0, 1, 5, 200, 255, 0x0a0000ff, 0x7fffffff, math.MaxUint32 - 64} {
		checkNoNew(t, addr.Of(first), addr.Of(first+64))
		if _, e := pool.New(addr.Of(first), addr.Of(first+63), nil); e != api.OK {
			t.Errorf("P14.1: New of 64 addresses from %d: %d", first, e)
		}
		if first > 0 {
			checkNoNew(t, addr.Of(first), addr.Of(first-1))
			checkNoNew(t, addr.Of(first), addr.Of(0))
		}
		for _, more := range []uint32{65, 127, 128, 255, 256, 257, 1 << 16, 1 << 24, math.MaxUint32 - first} {
			if first+more > first && more > 63 {
				checkNoNew(t, addr.Of(first), addr.Of(first+more))
				checkNoNew(t, addr.Of(first+more), addr.Of(first))
			}
		}
	}
	for i := range 4 {
		var a, b api.Addr
		a[i], b[i] = 2, 1
		checkNoNew(t, a, b)
	}
	checkNoNew(t, api.Addr{1, 0, 0, 0}, api.Addr{0, 255, 255, 255})
	checkNoNew(t, api.Addr{}, api.Addr{255, 255, 255, 255})
	checkNoNew(t, api.Addr{255, 255, 255, 255}, api.Addr{})
}

// TestTwins has equal addresses and equal MAC addresses at all places, of elements
// in and beside the pool.
func TestTwins(t *testing.T) {
	for count := 2; count < 9; count++ {
		for i := range count {
			for j := range i {
				one, other, both := list(count), list(count), list(count)
				one[i].Mac = one[j].Mac
				other[i].Addr = other[j].Addr
				both[i] = both[j]
				both[i].Until = 5
				checkNoNew(t, at(3), at(5), one...)
				checkNoNew(t, at(3), at(5), other...)
				checkNoNew(t, at(3), at(5), both...)
			}
		}
		made(t, 3, 5, list(count)...)
	}
	checkNoNew(t, at(5), at(4), list(2)...)
	checkNoNew(t, at(5), at(69), list(2)...)
}

// list returns fixed addresses in descending order, all of which are different.
func list(count int) []pool.Lease {
	var l []pool.Lease
	for i := range count {
		l = append(l, fixed(i, count-i))
	}
	return l
}

// TestFixedOnesThatDifferLittle has MAC addresses and addresses that differ in one
// byte only.
func TestFixedOnesThatDifferLittle(t *testing.T) {
	l := []pool.Lease{{}}
	for i := range 6 {
		x := pool.Lease{Addr: api.Addr{9, 9, 9, byte(i)}}
		x.Mac[i] = 1
		l = append(l, x)
	}
	for i := range 4 {
		x := pool.Lease{Mac: api.Mac{9, 9, 9, 9, 9, byte(i)}}
		x.Addr[i] = 1
		l = append(l, x)
	}
	p := made(t, 1, 2, l...)
	for _, x := range l {
		if a, e := p.Offer(x.Mac, at(1), 0); a != x.Addr || e != api.OK {
			t.Errorf("P14.1: Offer(%v): %v, %d instead of %v", x.Mac, a, e, x.Addr)
		}
	}
}

// TestNoLeases has fixed addresses with an Until, which does not count.
func TestNoLeases(t *testing.T) {
	p := made(t, 1, 3, until(7, 2, 50), until(8, 9, math.MaxInt64), until(9, 0, math.MinInt64))
	checkAll(t, p, 0)
	checkTick(t, p, 0)
	for m := range 10 {
		checkNone(t, p, m, 0)
		for a := range 10 {
			checkEnd(t, p, m, a, false)
		}
	}
	checkTick(t, p, 60)
	checkTake(t, p, 7, 2, 60, 5, api.OK)
	checkAll(t, p, 60, until(7, 2, 65))
	checkTick(t, p, 65, until(7, 2, 65))
}

// TestZeroMac has the MAC address of zeros, which is one like any other.
func TestZeroMac(t *testing.T) {
	var zero api.Mac
	p := made(t, 1, 3)
	for a := range 5 {
		if p.End(zero, at(a)) {
			t.Errorf("P14.1: End of an address without a lease")
		}
	}
	if _, ok := p.Of(zero, 0); ok {
		t.Errorf("P14.1: Of one without a lease")
	}
	checkTake(t, p, 5, 1, 0, 4, api.OK)
	if a, e := p.Offer(zero, at(9), 4); a != at(2) || e != api.OK {
		t.Errorf("P14.1: Offer: %v, %d", a, e)
	}
	if e := p.Take(zero, at(3), 4, 2); e != api.OK {
		t.Errorf("P14.1: Take: %d", e)
	}
	if a, e := p.Offer(zero, at(9), 6); a != at(3) || e != api.OK {
		t.Errorf("P14.1: Offer of its former address: %v, %d", a, e)
	}
	if !p.End(zero, at(3)) || p.End(zero, at(2)) {
		t.Errorf("P14.1: End")
	}
}

// TestOfferExample has the example of the chapter.
func TestOfferExample(t *testing.T) {
	p := made(t, 100, 101)
	checkOffer(t, p, 1, 0, 0, 100)
	checkTake(t, p, 1, 100, 0, 10, api.OK)
	checkOffer(t, p, 2, 0, 0, 101)
	checkOffer(t, p, 2, 100, 0, 101)
	checkOffer(t, p, 1, 101, 0, 100)
	checkTake(t, p, 2, 101, 0, 10, api.OK)
	checkNoOffer(t, p, 3, 100, 9)
	checkOffer(t, p, 3, 101, 10, 101)
}

// TestOffersOfFixed has MAC addresses with fixed addresses in and beside the pool,
// which nobody else is offered, with and without a lease.
func TestOffersOfFixed(t *testing.T) {
	for _, leased := range []bool{false, true} {
		p := made(t, 10, 12, fixed(7, 10), fixed(8, 12), fixed(9, 5), fixed(6, 500))
		if leased {
			checkTake(t, p, 7, 10, 0, 5, api.OK)
			checkTake(t, p, 8, 12, 0, 5, api.OK)
			checkTake(t, p, 9, 5, 0, 5, api.OK)
		}
		for _, now := range []int64{0, 4, 5, 6} {
			for want := range 15 {
				checkOffer(t, p, 7, want, now, 10)
				checkOffer(t, p, 8, want, now, 12)
				checkOffer(t, p, 9, want, now, 5)
				checkOffer(t, p, 6, want, now, 500)
				checkOffer(t, p, 1, want, now, 11)
			}
			checkOffer(t, p, 1, 500, now, 11)
		}
		checkTake(t, p, 1, 11, 6, 5, api.OK)
		checkNoOffer(t, p, 2, 10, 6)
		checkOffer(t, p, 7, 11, 6, 10)
	}
}

// TestNoneButFixed has pools that have no address of their own.
func TestNoneButFixed(t *testing.T) {
	p := made(t, 10, 11, fixed(1, 11), fixed(2, 10), fixed(3, 12))
	for want := range 15 {
		checkNoOffer(t, p, 4, want, 0)
		checkTake(t, p, 4, want, 0, 5, api.ENONE)
		checkBar(t, p, want, 0, 5, false)
	}
	checkOffer(t, p, 1, 10, 0, 11)
	checkTake(t, p, 2, 10, 0, 5, api.OK)
	checkTick(t, p, 5, until(2, 10, 5))
	checkNoOffer(t, p, 4, 10, 5)
}

// TestOrderOfOffers takes away, one after the other, what is offered first.
func TestOrderOfOffers(t *testing.T) {
	p := made(t, 1, 8)
	checkTake(t, p, 1, 4, 0, 5, api.OK)
	checkTake(t, p, 1, 6, 0, 5, api.OK) // 4 has Until 0
	checkTake(t, p, 2, 1, 0, 7, api.OK)
	checkTake(t, p, 3, 2, 0, 6, api.OK)
	checkTake(t, p, 4, 3, 0, 6, api.OK)
	checkTake(t, p, 5, 8, 0, 50, api.OK)
	checkOffer(t, p, 1, 7, 4, 6) // its live one
	checkOffer(t, p, 1, 7, 9, 7) // the wanted one
	checkOffer(t, p, 1, 2, 9, 2) // though it was another's
	checkOffer(t, p, 1, 8, 9, 4) // the least of its own
	checkBar(t, p, 4, 9, 9, true)
	checkOffer(t, p, 1, 8, 9, 6)
	checkOffer(t, p, 1, 4, 9, 6)
	checkBar(t, p, 6, 9, 9, true)
	checkOffer(t, p, 1, 8, 9, 5) // the least that nobody had
	checkBar(t, p, 5, 9, 9, true)
	checkOffer(t, p, 1, 8, 9, 7)
	checkBar(t, p, 7, 9, 9, true)
	checkOffer(t, p, 1, 8, 9, 2) // the least of those that are over longest
	checkBar(t, p, 2, 9, 9, true)
	checkOffer(t, p, 1, 8, 9, 3)
	checkBar(t, p, 3, 9, 9, true)
	checkOffer(t, p, 1, 8, 9, 1)
	checkBar(t, p, 1, 9, 9, true)
	checkNoOffer(t, p, 1, 8, 9)
	checkNoOffer(t, p, 1, 2, 17)
	checkOffer(t, p, 5, 1, 17, 8)
	checkOffer(t, p, 1, 8, 18, 4)
	checkOffer(t, p, 9, 0, 18, 5)
}

// TestLongestOver has leases that are over, with Untils in all orders, one of which
// is ended.
func TestLongestOver(t *testing.T) {
	for way := range 6 {
		order := []int{way / 2, (way/2 + 1 + way%2) % 3, (way/2 + 2 - way%2) % 3}
		p := made(t, 10, 12)
		for i, n := range order {
			checkTake(t, p, n, 10+n, 0, int64(5+i), api.OK)
		}
		for now := int64(5); now <= 7; now++ {
			checkOffer(t, p, 9, 0, now, 10+order[0])
		}
		checkEnd(t, p, order[1], 10+order[1], true)
		checkOffer(t, p, 9, 0, 7, 10+order[1])
		checkOffer(t, p, order[2], 0, 7, 10+order[2])
		checkEnd(t, p, order[0], 10+order[0], true)
		checkOffer(t, p, 9, 0, 7, 10+min(order[0], order[1]))
	}
}

// TestFormerLeases has a MAC address with several leases that are over, one of
// which another MAC address takes.
func TestFormerLeases(t *testing.T) {
	p := made(t, 1, 5)
	for _, n := range []int{5, 3, 4} {
		checkTake(t, p, 1, n, 0, 10, api.OK)
	}
	checkAll(t, p, 0, until(1, 4, 10))
	checkOffer(t, p, 1, 0, 9, 4)
	checkOffer(t, p, 1, 0, 10, 3)
	checkTake(t, p, 2, 3, 10, 10, api.OK)
	checkOffer(t, p, 1, 0, 10, 4)
	checkEnd(t, p, 1, 3, false)
	checkEnd(t, p, 2, 3, true)
	checkOffer(t, p, 1, 0, 10, 4)
	checkOffer(t, p, 2, 0, 10, 3)
	checkOffer(t, p, 3, 0, 10, 1)
}

// TestOfferChangesNothing has offers between which nobody takes anything.
func TestOfferChangesNothing(t *testing.T) {
	p := made(t, 1, 2, fixed(9, 5))
	for m := range 10 {
		want := 1
		if m == 9 {
			want = 5
		}
		checkOffer(t, p, m, 7, 0, want)
		checkNone(t, p, m, 0)
	}
	checkAll(t, p, 0)
	checkTick(t, p, 0)
	checkTake(t, p, 1, 2, 0, 5, api.OK)
	checkOffer(t, p, 1, 1, 5, 1)
	checkTake(t, p, 2, 1, 5, 5, api.OK)
	checkTick(t, p, 5, until(1, 2, 5))
	checkOffer(t, p, 1, 1, 5, 2)
	checkTick(t, p, 5)
}

func TestSecs(t *testing.T) {
	for _, secs := range []int64{1, 2, 59, 86400, 1 << 29, 999_999_999, 1_000_000_000} {
		for _, now := range []int64{0, 1, 1 << 33, api.MaxTime} {
			p := made(t, 1, 2)
			checkTake(t, p, 1, 1, now, secs, api.OK)
			checkAll(t, p, now, until(1, 1, now+secs))
			checkBar(t, p, 2, now, secs, true)
			checkNoOffer(t, p, 2, 2, now)
		}
	}
	wrong := []int64{0, -1, -2, -1_000_000_000, 1_000_000_001, 1_000_000_002, 1 << 31, 1 << 32, 1<<32 + 1, api.MaxTime, math.MaxInt64, math.MinInt64}
	for _, secs := range wrong {
		p := made(t, 1, 2, fixed(9, 5))
		checkTake(t, p, 1, 1, 0, secs, api.EARG)
		checkTake(t, p, 9, 5, 0, secs, api.EARG)
		checkBar(t, p, 2, 0, secs, false)
		checkAll(t, p, 0)
		checkOffer(t, p, 1, 2, 0, 2)
	}
}

// TestOrderOfErrors has calls with more than one fault.
func TestOrderOfErrors(t *testing.T) {
	p := made(t, 1, 4, fixed(8, 2), fixed(9, 7))
	checkTake(t, p, 1, 1, 0, 100, api.OK)
	checkBar(t, p, 3, 0, 100, true)
	for a := range 10 {
		for m := range 10 {
			checkTake(t, p, m, a, 0, 0, api.EARG)
			checkTake(t, p, m, a, 0, 1_000_000_001, api.EARG)
		}
		if a != 2 {
			checkTake(t, p, 8, a, 0, 5, api.ETAKEN)
		}
		if a != 7 {
			checkTake(t, p, 9, a, 0, 5, api.ETAKEN)
		}
	}
	for _, a := range []int{-1, 0, 2, 5, 6, 7, 8, 500} {
		checkTake(t, p, 1, a, 0, 5, api.ENONE)
		checkTake(t, p, 2, a, 0, 5, api.ENONE)
	}
	checkTake(t, p, 2, 1, 0, 5, api.ETAKEN)
	checkTake(t, p, 2, 3, 0, 5, api.ETAKEN)
	checkTake(t, p, 1, 3, 0, 5, api.ETAKEN)
	checkAll(t, p, 0, until(1, 1, 100))
	checkTake(t, p, 8, 2, 0, 5, api.OK)
	checkTake(t, p, 9, 7, 0, 5, api.OK)
	checkTake(t, p, 8, 1, 0, 5, api.ETAKEN)
	checkTake(t, p, 1, 7, 0, 5, api.ENONE)
	checkAll(t, p, 0, until(1, 1, 100), until(8, 2, 5), until(9, 7, 5))
}

// TestTakeAgain has leases that are taken again by the same MAC address, to a later
// and to an earlier time, and by another one once they are over.
func TestTakeAgain(t *testing.T) {
	p := made(t, 1, 3)
	checkTake(t, p, 1, 1, 0, 10, api.OK)
	checkTake(t, p, 1, 1, 5, 10, api.OK)
	checkAll(t, p, 5, until(1, 1, 15))
	checkTake(t, p, 1, 1, 6, 2, api.OK)
	checkAll(t, p, 6, until(1, 1, 8))
	checkTake(t, p, 2, 1, 7, 2, api.ETAKEN)
	checkTick(t, p, 7)
	checkTake(t, p, 2, 1, 8, 2, api.OK)
	checkAll(t, p, 8, until(2, 1, 10))
	checkNone(t, p, 1, 8)
	checkTick(t, p, 9)
	checkTick(t, p, 10, until(2, 1, 10))
}

// TestOneLiveLease has a MAC address that takes one address after the other, up
// and down: the former one is over at once.
func TestOneLiveLease(t *testing.T) {
	p := made(t, 1, 5)
	checkTake(t, p, 9, 4, 0, 1000, api.OK)
	before := 0
	for i, a := range []int{3, 1, 2, 5, 1} {
		now := int64(i)
		checkTake(t, p, 1, a, now, 100, api.OK)
		checkOf(t, p, 1, now, a)
		if before > 0 {
			checkTick(t, p, now, until(1, before, 0))
			checkTake(t, p, 2, before, now, 1, api.OK)
			checkEnd(t, p, 2, before, true)
			checkTick(t, p, now, until(2, before, 0))
		}
		before = a
	}
	checkAll(t, p, 4, until(1, 1, 104), until(9, 4, 1000))
}

// TestFormerLeaseThatWasOver has a lease that keeps its Until, as it was over when
// the MAC address took another one.
func TestFormerLeaseThatWasOver(t *testing.T) {
	p := made(t, 1, 3)
	checkTake(t, p, 1, 1, 0, 10, api.OK)
	checkTake(t, p, 1, 2, 10, 10, api.OK)
	checkTick(t, p, 10, until(1, 1, 10))
	checkTick(t, p, 20, until(1, 2, 20))
	checkTake(t, p, 1, 1, 20, 1, api.OK)
	checkTick(t, p, 21, until(1, 1, 21))
}

func TestEnd(t *testing.T) {
	p := made(t, 1, 3, fixed(9, 2), fixed(8, 7))
	checkTake(t, p, 1, 1, 0, 100, api.OK)
	checkTake(t, p, 2, 3, 0, 100, api.OK)
	checkTake(t, p, 9, 2, 0, 100, api.OK)
	checkTake(t, p, 8, 7, 0, 100, api.OK)
	for m := range 12 {
		for a := range 12 {
			if m != 1 && a == 1 || m != 2 && a == 3 || m != 9 && a == 2 || m != 8 && a == 7 || a > 7 || a == 0 {
				checkEnd(t, p, m, a, false)
			}
		}
	}
	checkAll(t, p, 0, until(1, 1, 100), until(9, 2, 100), until(2, 3, 100), until(8, 7, 100))
	checkEnd(t, p, 1, 1, true)
	checkAll(t, p, 0, until(9, 2, 100), until(2, 3, 100), until(8, 7, 100))
	checkNone(t, p, 1, 0)
	checkEnd(t, p, 1, 1, true)
	checkTick(t, p, 0, until(1, 1, 0))
	checkEnd(t, p, 1, 1, true)
	checkTick(t, p, 1)
	checkEnd(t, p, 9, 2, true)
	checkEnd(t, p, 8, 7, true)
	checkTick(t, p, 1, until(9, 2, 0), until(8, 7, 0))
	checkTick(t, p, 100, until(2, 3, 100))
	checkEnd(t, p, 2, 3, true)
	checkTick(t, p, 100)
	checkOffer(t, p, 5, 0, 100, 1)
	checkTake(t, p, 2, 1, 100, 5, api.OK)
	checkEnd(t, p, 1, 1, false)
	checkOf(t, p, 2, 100, 1)
}

// TestEndMakesFree has an address that another takes at once, and one that its
// former owner takes again.
func TestEndMakesFree(t *testing.T) {
	p := made(t, 1, 2)
	checkTake(t, p, 1, 1, 3, 100, api.OK)
	checkTake(t, p, 2, 2, 3, 100, api.OK)
	checkNoOffer(t, p, 3, 1, 3)
	checkEnd(t, p, 1, 1, true)
	checkOffer(t, p, 3, 2, 3, 1)
	checkOffer(t, p, 1, 2, 3, 1)
	checkTake(t, p, 1, 1, 3, 100, api.OK)
	checkTick(t, p, 3)
	checkEnd(t, p, 1, 1, true)
	checkTake(t, p, 3, 1, 3, 50, api.OK)
	checkTick(t, p, 3)
	checkAll(t, p, 3, until(3, 1, 53), until(2, 2, 103))
}
