package ports_test

import (
	"math"
	"slices"
	"testing"

	"gatehouse/api"
	"gatehouse/ports"
)

// calls are those that have a time, so that each of them lets it go by, even if it
// returns an error, finds nothing or changes nothing. The tables that they are called
// for have mappings of the hosts 5 to 8 and room for one more.
var calls = []struct {
	name string
	call func(x *ports.Table, now int64)
}{
	{"Put", func(x *ports.Table, now int64) { x.Put(kind(4, icmp, 9, 9, 9, 0), now) }},
	{"Put of the same", func(x *ports.Table, now int64) { x.Put(kind(4, tcp, 80, 7, 80, 0), now) }},
	{"Put with EARG", func(x *ports.Table, now int64) { x.Put(kind(1, icmp, 9, 9, 9, 0), now) }},
	{"Put that is over", func(x *ports.Table, now int64) { x.Put(kind(2, icmp, 9, 9, 9, 0), now) }},
	{"Put with ETAKEN", func(x *ports.Table, now int64) { x.Put(kind(4, tcp, 80, 8, 80, 0), now) }},
	{"Make", func(x *ports.Table, now int64) { x.Make(flow(icmp, 9, 9), now, 1_000_000) }},
	{"Make of one that has one", func(x *ports.Table, now int64) { x.Make(flow(tcp, 7, 80), now, 1) }},
	{"Make with EARG", func(x *ports.Table, now int64) { x.Make(flow(2, 9, 9), now, 1) }},
	{"Make without secs", func(x *ports.Table, now int64) { x.Make(flow(udp, 5, 80), now, 0) }},
	{"Out", func(x *ports.Table, now int64) { x.Out(flow(tcp, 7, 80), now) }},
	{"Out of none", func(x *ports.Table, now int64) { x.Out(flow(0, 9, 80), now) }},
	{"In", func(x *ports.Table, now int64) { x.In(tcp, 80, now) }},
	{"In of none", func(x *ports.Table, now int64) { x.In(0, -1, now) }},
	{"Live of none", func(x *ports.Table, now int64) { x.Live(tcp, 81, now, 5) }},
	{"Live of another kind", func(x *ports.Table, now int64) { x.Live(tcp, 80, now, 5) }},
	{"Live without secs", func(x *ports.Table, now int64) { x.Live(udp, 3000, now, 0) }},
	{"Tick", func(x *ports.Table, now int64) { x.Tick(now) }},
	{"All", func(x *ports.Table, now int64) { x.All(now) }},
	{"Len", func(x *ports.Table, now int64) { x.Len(now) }},
}

// TestTimesCountWithFull has those calls with EFULL, which let time go by as well.
func TestTimesCountWithFull(t *testing.T) {
	for name, call := range map[string]func(x *ports.Table, now int64) api.Errno{
		"Put": func(x *ports.Table, now int64) api.Errno { return x.Put(kind(4, icmp, 9, 9, 9, 0), now) },
		"Make": func(x *ports.Table, now int64) api.Errno {
			_, e := x.Make(flow(icmp, 9, 9), now, 50)
			return e
		},
	} {
		x := made(t, 3000, 1)
		put(t, x, 0, kind(2, udp, 80, 5, 80, 100))
		if e := call(x, 99); e != api.EFULL {
			t.Errorf("P17.1: %s: %d", name, e)
		}
		checkPut(t, x, kind(2, udp, 80, 5, 80, 99), 0, api.EARG)
		checkAll(t, x, 0, kind(2, udp, 80, 5, 80, 100))
		if e := call(x, 100); e != api.OK {
			t.Errorf("P17.1: %s: %d", name, e)
		}
	}
}

// TestTimesDoNotDecrease has, after each call at 109, times that are less or out of
// range: they count as 109, and not as the last one in range.
func TestTimesDoNotDecrease(t *testing.T) {
	odd := []int64{108, 100, 1, 0, -1, -109, math.MinInt64, api.MaxTime + 1, api.MaxTime + 110, 1 << 50, math.MaxInt64}
	for _, c := range calls {
		for _, now := range odd {
			x := made(t, 3000, 4)
			put(t, x, 10, kind(4, tcp, 80, 7, 80, 0), kind(2, udp, 8, 6, 80, 109))
			checkMakeAt(t, x, flow(udp, 5, 80), 30, 80, 3000)
			c.call(x, 109)
			made := kind(1, udp, 3000, 5, 80, 110)
			checkOut(t, x, flow(udp, 5, 80), now, made)
			checkIn(t, x, now, made)
			checkNoOut(t, x, flow(udp, 6, 80), now)
			checkNoIn(t, x, udp, 8, now)
			checkLive(t, x, udp, 3000, now, 1, false)
			if l := x.All(now); !slices.Contains(l, made) || slices.Contains(l, kind(2, udp, 8, 6, 80, 109)) {
				t.Errorf("P17.1: All(%d) after %s at 109: %v", now, c.name, l)
			}
			checkPut(t, x, kind(3, udp, 9, 8, 1, 109), now, api.EARG)
			put(t, x, now, kind(3, udp, 9, 8, 1, 110))
			x.Tick(now)
			made.Until = 112
			checkMake(t, x, flow(udp, 5, 80), now, 3, made)
			made.Until = 114
			checkLive(t, x, udp, 3000, now, 5, true)
			checkIn(t, x, 113, made)
			if n, l := x.Len(now), x.All(113); n != len(l) {
				t.Errorf("P17.1: Len(%d) after %s at 113: %d instead of %d", now, c.name, n, len(l))
			}
			if l := x.Tick(now); !slices.Equal(l, []ports.Map{kind(3, udp, 9, 8, 1, 110)}) {
				t.Errorf("P17.1: Tick(%d) after %s at 113: %v", now, c.name, l)
			}
			checkTick(t, x, 114, made)
		}
	}
}

// TestTimesCount has the times of calls, which later ones at 0 are at.
func TestTimesCount(t *testing.T) {
	for _, c := range calls {
		x := made(t, 3000, 5)
		put(t, x, 0, kind(4, tcp, 80, 7, 80, 0), kind(3, udp, 8, 6, 80, 101))
		checkMakeAt(t, x, flow(udp, 5, 80), 0, 100, 3000)
		c.call(x, 99)
		checkIn(t, x, 0, kind(1, udp, 3000, 5, 80, 100))
		c.call(x, 100)
		checkNoIn(t, x, udp, 3000, 0)
		checkNoOut(t, x, flow(udp, 5, 80), 0)
		checkIn(t, x, 0, kind(3, udp, 8, 6, 80, 101))
		checkPut(t, x, kind(3, udp, 8, 6, 80, 100), 0, api.EARG)
		c.call(x, 101)
		checkNoOut(t, x, flow(udp, 6, 80), 0)
		checkMakeUntil(t, x, flow(udp, 8, 1), 0, 5, 3000, 106)
	}
}

// checkMakeUntil has a flow that is given a new mapping until a time.
func checkMakeUntil(t *testing.T, x *ports.Table, f api.Flow, now, secs int64, out int, until int64) {
	t.Helper()
	checkMake(t, x, f, now, secs, ports.Map{Proto: f.Proto, Out: out, Addr: f.Addr, In: f.Port, Kind: 1, Until: until})
}

// TestFirstTimes has times out of range before all others: none was greater, so that
// they count as 0.
func TestFirstTimes(t *testing.T) {
	for _, now := range []int64{-1, math.MinInt64, api.MaxTime + 1, math.MaxInt64, 0} {
		x := made(t, 3000, 5)
		checkPut(t, x, kind(2, udp, 8, 6, 80, 0), now, api.EARG)
		put(t, x, now, kind(2, udp, 8, 6, 80, 1))
		checkMakeUntil(t, x, flow(udp, 5, 80), now, 10, 3000, 10)
		checkAll(t, x, now, kind(2, udp, 8, 6, 80, 1), kind(1, udp, 3000, 5, 80, 10))
		checkTick(t, x, now)
		checkLive(t, x, udp, 3000, now, 10, false)
		checkLive(t, x, udp, 3000, now, 11, true)
		checkOut(t, x, flow(udp, 6, 80), now, kind(2, udp, 8, 6, 80, 1))
		checkIn(t, x, now, kind(2, udp, 8, 6, 80, 1))
		checkTick(t, x, 1, kind(2, udp, 8, 6, 80, 1))
		checkTick(t, x, 10)
		checkTick(t, x, 11, kind(1, udp, 3000, 5, 80, 11))
	}
}

// TestLastTimes has the greatest time that counts, and Untils beyond it, at which no
// mapping is over any more.
func TestLastTimes(t *testing.T) {
	const last = api.MaxTime
	x := made(t, 3000, 9)
	put(t, x, last-10, kind(2, udp, 1, 5, 80, last), kind(3, udp, 2, 5, 80, last+1), kind(2, udp, 3, 5, 80, math.MaxInt64))
	checkMakeAt(t, x, flow(udp, 5, 81), last-10, 10, 3000)
	checkMakeAt(t, x, flow(udp, 5, 82), last-10, 11, 3001)
	if n := x.Len(last - 1); n != 5 {
		t.Errorf("P17.1: Len(%d): %d", int64(last-1), n)
	}
	checkTick(t, x, last+1)
	checkTick(t, x, last, kind(2, udp, 1, 5, 80, last), kind(1, udp, 3000, 5, 81, last))
	for _, now := range []int64{last, last + 1, last + 5, math.MaxInt64} {
		checkAll(t, x, now, kind(3, udp, 2, 5, 80, last+1), kind(2, udp, 3, 5, 80, math.MaxInt64), kind(1, udp, 3001, 5, 82, last+1))
		checkTick(t, x, now)
		checkPut(t, x, kind(2, udp, 9, 5, 80, last), now, api.EARG)
		checkLive(t, x, udp, 3001, now, 1, false)
	}
	checkLive(t, x, udp, 3001, math.MaxInt64, 1_000_000_000, true)
	checkMakeUntil(t, x, flow(udp, 5, 83), math.MaxInt64, 1_000_000_000, 3000, last+1_000_000_000)
	checkIn(t, x, last, kind(1, udp, 3001, 5, 82, last+1_000_000_000))
}

// TestErrorsChangeNothing has calls that return an error or false, of all ports and
// flows of a table that is full and has some mappings that are over.
func TestErrorsChangeNothing(t *testing.T) {
	x := made(t, 3000, 4)
	over := []ports.Map{kind(2, tcp, 6, 6, 80, 5), kind(1, tcp, 3000, 5, 80, 5), kind(1, udp, 3000, 5, 80, 4)}
	put(t, x, 0, over[0])
	checkMake(t, x, flow(tcp, 5, 80), 0, 5, over[1])
	checkMake(t, x, flow(udp, 5, 80), 0, 4, over[2])
	live := []ports.Map{kind(4, tcp, 80, 5, 70, 0), kind(3, tcp, 81, 5, 80, 50), kind(2, udp, 80, 5, 70, 60), kind(1, udp, 3001, 6, 80, 40)}
	checkMake(t, x, flow(udp, 6, 80), 0, 40, live[3])
	put(t, x, 5, live[:3]...)
	for _, proto := range protos {
		for _, out := range []int{6, 80, 81, 3000, 3001, 4000} {
			for k := 2; k <= 4; k++ {
				e := api.EFULL
				if slices.ContainsFunc(live, func(m ports.Map) bool { return m.Proto == proto && m.Out == out }) {
					e = api.ETAKEN
				}
				checkPut(t, x, kind(k, proto, out, 9, 90, end(k, 70)), 5, e)
				checkPut(t, x, kind(k, proto, out, 9, 90, -1), 5, api.EARG)
			}
			for n := 7; n < 10; n++ {
				checkNoMake(t, x, flow(proto, n, out), 5, 10, api.EFULL)
				checkNoMake(t, x, flow(proto, 5, 80), 5, 0, api.EARG)
				checkNoOut(t, x, flow(proto, n, out), 5)
			}
			checkLive(t, x, proto, out, 5, 10, false)
			checkDrop(t, x, proto, out, 0, false)
			checkDrop(t, x, proto, out, 5, false)
		}
	}
	checkPurge(t, x, 9, 0, 0)
	checkClear(t, x, 5, 0)
	checkAll(t, x, 5, live...)
	checkTick(t, x, 5, over...)
	checkAll(t, x, 5, live...)
}

// TestResultsAreNew has lists of results that are written over with all of their
// spare capacity.
func TestResultsAreNew(t *testing.T) {
	for count := 1; count < 40; count++ {
		x := made(t, 3000, 40)
		var live []ports.Map
		for i := 1; i <= count; i++ {
			m := kind(2+i%2, udp, i, i, 80, 5)
			put(t, x, 0, m)
			live = append(live, m)
		}
		for range 2 {
			l := x.All(0)
			if !slices.Equal(l, live) {
				t.Errorf("P17.1, R4: All: %v instead of %v", l, live)
			}
			spoil(l)
		}
		checkAll(t, x, 0, live...)
		put(t, x, 0, kind(4, udp, 500, 5, 5, 0))
		l := x.Tick(5)
		if !slices.Equal(l, live) {
			t.Errorf("P17.1, R4: Tick: %v instead of %v", l, live)
		}
		spoil(l)
		checkTick(t, x, 5)
		checkAll(t, x, 5, kind(4, udp, 500, 5, 5, 0))
		put(t, x, 5, kind(2, udp, 1, 1, 80, 9))
		if l[0] != kind(3, 99, 98, 97, 96, 95) {
			t.Errorf("R4: Put changed what Tick returned to %v", l)
		}
	}
}

func spoil(l []ports.Map) {
	l = l[:cap(l)]
	for i := range l {
		l[i] = kind(3, 99, 98, 97, 96, 95)
	}
}

// TestTablesShareNothing has tables that are called by turns, and others at the same
// time: each of them does what it would do alone.
func TestTablesShareNothing(t *testing.T) {
	for seed := range 8 {
		t.Run("tables", func(t *testing.T) {
			t.Parallel()
			d := dice(1000 + seed)
			tables := []*both{newBoth(t, 3000, 3), newBoth(t, 3000, 3), newBoth(t, 2000, 20)}
			for range 2000 {
				b := tables[d.roll(len(tables))]
				b.step(t, &d, 3, 10, b.plain.greatest+int64(d.roll(8)/7))
			}
		})
	}
}
