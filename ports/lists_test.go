package ports_test

import (
	"math"
	"testing"

	"gatehouse/api"
	"gatehouse/ports"
)

// many returns a table with mappings of all kinds and protocols of two hosts, of
// which all but the static ones end from 10 to 17.
func many(t *testing.T) (*ports.Table, []ports.Map) {
	t.Helper()
	x := made(t, 2000, 128)
	var l []ports.Map
	for _, proto := range protos {
		for i, k := range []int{2, 3, 4, 4, 3, 2} {
			l = append(l, kind(k, proto, 100+10*i, 5+i%2, 80+i, end(k, int64(10+i))))
		}
		l = append(l, kind(1, proto, 2000, 5, 70, 16), kind(1, proto, 3000, 6, 3000, 17))
	}
	for i := range l {
		m := l[len(l)-1-i]
		if m.Kind == 1 {
			checkMake(t, x, api.Flow{Proto: m.Proto, Addr: m.Addr, Port: m.In}, 0, m.Until, m)
		} else {
			put(t, x, 0, m)
		}
	}
	checkAll(t, x, 0, l...)
	return x, l
}

// without returns the mappings that are not so.
func without(l []ports.Map, so func(m ports.Map) bool) []ports.Map {
	var rest []ports.Map
	for _, m := range l {
		if !so(m) {
			rest = append(rest, m)
		}
	}
	return rest
}

// checkRest has the mappings of which some are live and some over, each of which is
// told by All or by Tick.
func checkRest(t *testing.T, x *ports.Table, l []ports.Map, now int64) {
	t.Helper()
	live := func(m ports.Map) bool { return m.Kind == 4 || now < m.Until }
	checkAll(t, x, now, without(l, func(m ports.Map) bool { return !live(m) })...)
	checkTick(t, x, now, without(l, live)...)
	checkTick(t, x, now)
	checkAll(t, x, now, without(l, func(m ports.Map) bool { return !live(m) })...)
}

// TestAll has each time at which some are over.
func TestAll(t *testing.T) {
	for now := range int64(20) {
		x, l := many(t)
		checkRest(t, x, l, now)
	}
}

// TestTick has a Tick at each time, each of which tells those that are over since
// the one before.
func TestTick(t *testing.T) {
	for step := int64(1); step < 7; step++ {
		x, l := many(t)
		for now := int64(0); now < 25; now += step {
			checkTick(t, x, now, without(l, func(m ports.Map) bool {
				return m.Kind == 4 || m.Until > now || m.Until <= now-step
			})...)
		}
		checkRest(t, x, without(l, func(m ports.Map) bool { return m.Kind != 4 }), 100)
	}
}

// TestTickOrder has ports of all sizes, of which those of each protocol are told in
// ascending order as numbers.
func TestTickOrder(t *testing.T) {
	outs := []int{65535, 9, 10, 256, 255, 1, 32768, 32767, 100, 65534, 2}
	x := made(t, 2000, 128)
	for i, out := range outs {
		put(t, x, 0, kind(2+i%2, protos[(i+1)%3], out, 5, 1, 10), kind(3-i%2, protos[i%3], out, 6, 1, 10), kind(2, protos[(i+2)%3], out, 7, 1, int64(10-i%2)))
	}
	all := x.All(0)
	if len(all) != 33 {
		t.Fatalf("P17.1: All: %v", all)
	}
	checkOrder(t, all)
	first := x.Tick(9)
	if len(first) != 5 {
		t.Errorf("P17.1: Tick(9): %v", first)
	}
	checkOrder(t, first)
	checkOrder(t, x.All(9))
	second := x.Tick(10)
	if len(second) != 28 {
		t.Errorf("P17.1: Tick(10): %v", second)
	}
	checkOrder(t, second)
	checkAll(t, x, 10)
}

func checkOrder(t *testing.T, l []ports.Map) {
	t.Helper()
	for i := 1; i < len(l); i++ {
		m, n := l[i-1], l[i]
		if m.Proto > n.Proto || m.Proto == n.Proto && m.Out >= n.Out {
			t.Errorf("P17.1: %v precedes %v", m, n)
		}
	}
}

// TestDrop has each mapping dropped, while it is live and after it, by its kind and
// not by any other.
func TestDrop(t *testing.T) {
	for now := int64(0); now < 20; now += 5 {
		x, l := many(t)
		checkAll(t, x, now, without(l, func(m ports.Map) bool { return m.Kind != 4 && m.Until <= now })...)
		for i, m := range l {
			for k := -1; k <= 6; k++ {
				if k != m.Kind {
					checkDrop(t, x, m.Proto, m.Out, k, false)
				}
			}
			checkDrop(t, x, m.Proto, m.Out+1, m.Kind, false)
			checkDrop(t, x, m.Proto, m.Out+1<<16, m.Kind, false)
			checkDrop(t, x, m.Proto+1, m.Out, m.Kind, false)
			if i%3 == 0 {
				checkDrop(t, x, m.Proto, m.Out, m.Kind, true)
				checkDrop(t, x, m.Proto, m.Out, m.Kind, false)
				checkNoIn(t, x, m.Proto, m.Out, now)
			}
		}
		var rest []ports.Map
		for i, m := range l {
			if i%3 > 0 {
				rest = append(rest, m)
			}
		}
		checkDrop(t, x, math.MinInt, math.MaxInt, 4, false)
		checkDrop(t, x, math.MaxInt, math.MinInt, 4, false)
		checkRest(t, x, rest, now)
	}
}

// TestPurge has each host and each kind that is kept, with mappings that are over.
func TestPurge(t *testing.T) {
	for now := int64(0); now < 20; now += 4 {
		for n := 5; n <= 7; n++ {
			for _, keep := range []int{0, 1, 2, 3, 4, 5, -1, math.MinInt, math.MaxInt} {
				x, l := many(t)
				x.Len(now)
				rest := without(l, func(m ports.Map) bool { return m.Addr == host(n) && m.Kind != keep })
				checkPurge(t, x, n, keep, len(l)-len(rest))
				checkPurge(t, x, n, keep, 0)
				checkRest(t, x, rest, now)
			}
		}
	}
}

// TestClear has each kind, with mappings that are over.
func TestClear(t *testing.T) {
	for now := int64(0); now < 20; now += 4 {
		for _, k := range []int{0, 1, 2, 3, 4, 5, -1, math.MinInt, math.MaxInt} {
			x, l := many(t)
			x.Len(now)
			rest := without(l, func(m ports.Map) bool { return m.Kind == k })
			checkClear(t, x, k, len(l)-len(rest))
			checkClear(t, x, k, 0)
			checkRest(t, x, rest, now)
		}
	}
}

// TestRoomIsGiven has Drop, Purge and Clear of live mappings of a full table, which
// then has room, and of those that are over, which took none.
func TestRoomIsGiven(t *testing.T) {
	for name, remove := range map[string]func(x *ports.Table){
		"Drop":  func(x *ports.Table) { checkDrop(t, x, tcp, 2000, 1, true) },
		"Purge": func(x *ports.Table) { checkPurge(t, x, 5, 0, 1) },
		"Clear": func(x *ports.Table) { checkClear(t, x, 1, 1) },
	} {
		x := made(t, 2000, 2)
		put(t, x, 0, kind(4, udp, 9, 6, 9, 0))
		checkMakeAt(t, x, flow(tcp, 5, 80), 0, 10, 2000)
		checkPut(t, x, kind(4, udp, 8, 6, 9, 0), 0, api.EFULL)
		remove(x)
		put(t, x, 0, kind(3, udp, 8, 6, 9, 100))
		if n := x.Len(0); n != 2 {
			t.Errorf("P17.1: Len after %s: %d", name, n)
		}

		x = made(t, 2000, 2)
		put(t, x, 0, kind(4, udp, 9, 6, 9, 0))
		checkMakeAt(t, x, flow(tcp, 5, 80), 0, 10, 2000)
		put(t, x, 10, kind(3, udp, 8, 6, 9, 100))
		remove(x)
		checkPut(t, x, kind(4, udp, 7, 6, 9, 0), 10, api.EFULL)
		checkTick(t, x, 10)
		checkAll(t, x, 10, kind(3, udp, 8, 6, 9, 100), kind(4, udp, 9, 6, 9, 0))
	}
}

// TestManyAreOver has far more mappings that are over than there is room: a Tick
// tells all of them.
func TestManyAreOver(t *testing.T) {
	x := made(t, 1024, 128)
	const rounds = 400
	count := 0
	for round := range int64(rounds) {
		for i := range 128 {
			out := 1 + int(round)*128 + i
			put(t, x, round, kind(2+i%2, protos[i%3], out, i%7, 80, round+1))
			count++
		}
		checkPut(t, x, kind(2, udp, 65535, 5, 80, 1000), round, api.EFULL)
	}
	if n := x.Len(rounds); n != 0 {
		t.Errorf("P17.1: Len(%d): %d", rounds, n)
	}
	count -= x.Purge(host(3), 2)
	checkPurge(t, x, 3, 2, 0)
	l := x.Tick(rounds)
	if len(l) != count {
		t.Errorf("P17.1: Tick(%d): %d instead of %d", rounds, len(l), count)
	}
	checkOrder(t, l)
	for _, m := range l {
		if m.Addr == host(3) && m.Kind != 2 || m.Until != int64((m.Out-1)/128)+1 {
			t.Fatalf("P17.1: Tick(%d): %v", rounds, m)
		}
	}
	checkTick(t, x, rounds)
}
