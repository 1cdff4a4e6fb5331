package near_test

import (
	"bytes"
	"math"
	"slices"
	"testing"

	"gatehouse/api"
	"gatehouse/near"
)

// calls are those that have a time, so that each of them lets it go by, even if
// it finds nothing or changes nothing.
var calls = []struct {
	name string
	call func(n *near.Table, now int64)
}{
	{"Learn", func(n *near.Table, now int64) { n.Learn(at(50), mac(50), now, true) }},
	{"Learn of none", func(n *near.Table, now int64) { n.Learn(at(50), mac(50), now, false) }},
	{"Want", func(n *near.Table, now int64) { n.Want(at(50), nil, now) }},
	{"Want of a known one", func(n *near.Table, now int64) { n.Want(at(9), nil, now) }},
	{"Tick", func(n *near.Table, now int64) { n.Tick(now) }},
	{"Mac", func(n *near.Table, now int64) { n.Mac(at(9), now) }},
	{"Mac of none", func(n *near.Table, now int64) { n.Mac(at(50), now) }},
}

// TestTimesDoNotDecrease has, after each call at 109, times that are less or out
// of range: they count as 109, and not as the last one in range.
func TestTimesDoNotDecrease(t *testing.T) {
	odd := []int64{108, 100, 1, 0, -1, -109, math.MinInt64, api.MaxTime + 1, api.MaxTime + 110, 1 << 50, math.MaxInt64}
	for _, c := range calls {
		for _, now := range odd {
			n := made(t, 10)
			n.Learn(at(9), mac(9), 1, true)
			n.Learn(at(1), mac(1), 100, true)
			n.Want(at(2), nil, 108)
			c.call(n, 109)
			checkMac(t, n, at(1), now, mac(1))
			checkWant(t, n, at(1), "a", now, isAt(mac(1)))
			checkLearn(t, n, at(3), mac(3), now, true)
			checkMac(t, n, at(1), 109, mac(1))
			checkNoMac(t, n, at(1), 110)
			checkMac(t, n, at(3), 118, mac(3))
			checkNoMac(t, n, at(3), 119)
		}
	}
}

// TestTimesCount has the times of calls, which later ones at 0 are at.
func TestTimesCount(t *testing.T) {
	for _, c := range calls {
		n := made(t, 10)
		n.Learn(at(1), mac(1), 100, true)
		n.Learn(at(3), mac(3), 100, true)
		c.call(n, 109)
		checkMac(t, n, at(1), 0, mac(1))
		c.call(n, 110)
		checkNoMac(t, n, at(1), 0)
		checkWant(t, n, at(3), "a", 0, asks)
		checkWant(t, n, at(3), "a", 110, waits)
		c.call(n, 111)
		want := asks
		if c.name == "Tick" {
			want = waits // as Tick made the request of that time
		}
		checkWant(t, n, at(3), "a", 0, want)
	}
}

// TestTimeOfWantWithoutRoom has calls at which nothing happens but time.
func TestTimeOfWantWithoutRoom(t *testing.T) {
	n := filled(t, -1)
	checkWant(t, n, at(99), "a", 1, waits)
	checkWant(t, n, at(5), "a", 0, asks)
	checkLearn(t, n, at(99), mac(1), 2, true)
	checkWant(t, n, at(5), "a", 1, asks)
	checkWant(t, n, at(5), "a", 2, waits)
}

// TestFirstTimes has times out of range before all others: none was greater, so
// that they count as 0.
func TestFirstTimes(t *testing.T) {
	for _, now := range []int64{-1, math.MinInt64, api.MaxTime + 1, math.MaxInt64, 0} {
		n := made(t, 10)
		checkLearn(t, n, at(1), mac(1), now, true)
		checkWant(t, n, at(2), "a", now, asks)
		checkWant(t, n, at(2), "b", 0, waits)
		checkTick(t, n, now)
		checkMac(t, n, at(1), 9, mac(1))
		checkNoMac(t, n, at(1), 10)
	}
}

// TestLastTimes has the greatest time that counts.
func TestLastTimes(t *testing.T) {
	n := made(t, 10)
	checkLearn(t, n, at(1), mac(1), api.MaxTime-10, true)
	checkLearn(t, n, at(2), mac(2), api.MaxTime-9, true)
	checkWant(t, n, at(3), "a", api.MaxTime-1, asks)
	checkMac(t, n, at(1), api.MaxTime+1, mac(1))
	checkWant(t, n, at(3), "b", api.MaxTime+1, waits)
	checkTick(t, n, api.MaxTime, at(3))
	checkNoMac(t, n, at(1), api.MaxTime)
	checkMac(t, n, at(2), api.MaxTime, mac(2))
	checkMac(t, n, at(2), api.MaxTime+1, mac(2))
	checkMac(t, n, at(2), math.MaxInt64, mac(2))
	checkTick(t, n, api.MaxTime+1)
	checkLen(t, n, 2)
}

// TestPacketsAreCopies has a packet with spare capacity that is written over
// after it was handed in, and results that are written over and appended to.
func TestPacketsAreCopies(t *testing.T) {
	n := made(t, 600)
	backing := []byte("abcdefgh")
	for i := range 4 {
		n.Want(at(1), backing[i:i+2], 0)
		n.Want(at(2), backing[i:i+2], 0)
	}
	n.Want(at(3), backing[2:2], 0)
	n.Want(at(3), backing[:8:8], 0)
	if string(backing) != "abcdefgh" {
		t.Errorf("R4: Want changed its argument to %q", backing)
	}
	for i := range backing {
		backing[i] = 'z'
	}
	first := n.Learn(at(1), mac(1), 0, false)
	for i, want := range []string{"ab", "bc", "cd", "de"} {
		if string(first[i]) != want {
			t.Errorf("P11.1, R4: the packet %d: %q instead of %q", i, first[i], want)
		}
		spoil(first[i])
	}
	_ = append(first, []byte("more"))
	checkLearn(t, n, at(2), mac(2), 0, false, "ab", "bc", "cd", "de")
	checkLearn(t, n, at(3), mac(3), 0, false, "", "abcdefgh")
	if string(backing) != "zzzzzzzz" {
		t.Errorf("R4: the results share memory with the arguments: %q", backing)
	}
}

// spoil writes over the bytes of b and all its spare capacity.
func spoil(b []byte) {
	b = b[:cap(b)]
	for i := range b {
		b[i] ^= 0xff
	}
}

// TestPacketsShareNothing has packets of all small sizes, whose spare capacity
// is written over one by one.
func TestPacketsShareNothing(t *testing.T) {
	for size := range 70 {
		n := made(t, 600)
		for i := range 4 {
			n.Want(at(1), noise(size, i), 0)
		}
		l := n.Learn(at(1), mac(1), 0, false)
		if len(l) != 4 {
			t.Fatalf("P11.1: %d packets of %d bytes instead of 4", len(l), size)
		}
		for i := range l {
			if !bytes.Equal(l[i], noise(size, i)) {
				t.Errorf("R4: the packet %d of %d bytes: %v", i, size, l[i])
			}
			spoil(l[i])
		}
	}
}

// TestResultsAreNew has lists of results that are written over.
func TestResultsAreNew(t *testing.T) {
	n := made(t, 600)
	n.Want(at(1), []byte("a"), 0)
	n.Want(at(2), []byte("b"), 0)
	n.Want(at(3), []byte("c"), 0)
	for now := int64(1); now <= 2; now++ {
		l := n.Tick(now)
		if !slices.Equal(l, []api.Addr{at(1), at(2), at(3)}) {
			t.Errorf("P11.2, R4: Tick(%d): %v", now, l)
		}
		clear(l[:cap(l)])
	}
	waiting := n.Learn(at(2), mac(2), 2, false)
	clear(waiting[:cap(waiting)])
	checkWant(t, n, at(2), "d", 2, isAt(mac(2)))
	checkLearn(t, n, at(1), mac(1), 2, false, "a")
	checkLearn(t, n, at(3), mac(3), 2, false, "c")
}

// TestTablesShareNothing has tables that are called by turns, and others at the
// same time: each of them does what it would do alone.
func TestTablesShareNothing(t *testing.T) {
	for seed := range 8 {
		t.Run("tables", func(t *testing.T) {
			t.Parallel()
			d := dice(1000 + seed)
			tables := []*both{newBoth(t, 3), newBoth(t, 3), newBoth(t, 20)}
			for range 2000 {
				b := tables[d.roll(len(tables))]
				b.step(t, &d, 40, b.plain.greatest+int64(d.roll(8)/7))
			}
		})
	}
}
