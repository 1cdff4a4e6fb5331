package track_test

import (
	"math"
	"testing"

	"gatehouse/track"
)

// number returns the connection number n: each has another port of the gateway.
func number(n int) talk { return talk{1000 + n, peer(n), 80} }

// to are the steps that lead to each state from 1 on.
var to = [][]step{
	nil,
	{{syn, outward}},
	{{syn, outward}, {syn | ack, inward}},
	{{syn, outward}, {syn | ack, inward}, {ack, outward}},
	{{syn, outward}, {fin, inward}},
	{{syn, outward}, {fin, inward}, {fin, outward}},
	{{syn, outward}, {rst, inward}},
}

// enter lets a connection go to a state, which it does not have yet.
func enter(t *testing.T, x *track.Table, k talk, state int) {
	t.Helper()
	for _, s := range to[state] {
		see(x, k, s)
	}
	checkState(t, x, k, state)
}

// filled returns a table that is full of the connections from number 0 on, which
// have these states.
func filled(t *testing.T, states ...int) *track.Table {
	t.Helper()
	x := made(t, len(states))
	for n, state := range states {
		enter(t, x, number(n), state)
	}
	checkLen(t, x, len(states))
	return x
}

// checkLeave has the numbers of the connections that are removed one by one when new
// ones begin, where these are not told: those from number 5000 on.
func checkLeave(t *testing.T, x *track.Table, leave ...int) {
	t.Helper()
	length := x.Len()
	for i, n := range leave {
		if k := number(n); x.State(k.out, k.peer, k.port) == 0 {
			t.Errorf("P18.1: number %d left too soon, before the one at %d of %v", n, i, leave)
		}
		enter(t, x, number(5000+i), 1)
		checkState(t, x, number(n), 0)
		checkLen(t, x, length)
	}
}

// TestNames has connections that differ in one thing each, which are others.
func TestNames(t *testing.T) {
	k := usual()
	others := []talk{
		{k.out + 1, k.peer, k.port}, {k.out - 1, k.peer, k.port}, {-k.out, k.peer, k.port}, {k.out + 1<<16, k.peer, k.port}, {k.out + 1<<32, k.peer, k.port},
		{k.out, k.peer, k.port + 1}, {k.out, k.peer, k.port - 1}, {k.out, k.peer, -k.port}, {k.out, k.peer, k.port + 1<<16}, {k.out, k.peer, k.port + 1<<32},
		{k.port, k.peer, k.out}, {0, k.peer, 0}, {k.out, k.peer, 0}, {0, k.peer, k.port},
	}
	for i := range k.peer {
		for _, change := range []byte{1, 128, 255} {
			o := k
			o.peer[i] ^= change
			others = append(others, o)
		}
	}
	for i, o := range others {
		x := made(t, 256)
		enter(t, x, k, 3)
		checkState(t, x, o, 0)
		checkSee(t, x, o, step{ack, outward}, 0)
		checkLen(t, x, 1)
		enter(t, x, o, 1)
		checkLen(t, x, 2)
		checkState(t, x, k, 3)
		checkSee(t, x, k, step{fin, inward}, 4)
		checkState(t, x, o, 1)
		for _, p := range others[:i] {
			checkState(t, x, p, 0)
		}
	}
	x := made(t, 256)
	for _, o := range others {
		enter(t, x, o, 2)
	}
	checkLen(t, x, len(others))
	checkState(t, x, k, 0)
}

// TestOddNames has numbers that are no ports, which name connections like others.
func TestOddNames(t *testing.T) {
	odd := []int{math.MinInt, -65536, -1, 0, 65536, math.MaxInt}
	x := made(t, 256)
	for _, out := range odd {
		for _, port := range odd {
			enter(t, x, talk{out, peer(0), port}, 3)
		}
	}
	checkLen(t, x, len(odd)*len(odd))
	for i, out := range odd {
		for _, port := range odd {
			checkState(t, x, talk{out, peer(0), port}, 3)
		}
		x.Forget(out)
		checkLen(t, x, len(odd)*(len(odd)-1-i))
		checkState(t, x, talk{out, peer(0), -1}, 0)
	}
}

// TestRooms has tables of all rooms: as many connections as there is room for, and
// then more.
func TestRooms(t *testing.T) {
	for room := 1; room <= 256; room++ {
		x := made(t, room)
		for n := range room {
			checkLen(t, x, n)
			checkSee(t, x, number(n), step{syn, n%2 == 0}, 1)
		}
		for n := range room {
			checkState(t, x, number(n), 1)
		}
		for n := range 3 {
			checkLen(t, x, room)
			checkSee(t, x, number(room+n), step{syn, outward}, 1)
			checkState(t, x, number(n), 0)
			if room > 3 {
				checkState(t, x, number(n+1), 1)
			}
		}
		checkLen(t, x, room)
	}
}

// TestFirstLeaves has full tables without a connection that is over: the first one
// of all is removed, whatever its state is.
func TestFirstLeaves(t *testing.T) {
	for first := 1; first <= 4; first++ {
		for second := 1; second <= 4; second++ {
			for third := 1; third <= 4; third++ {
				checkLeave(t, filled(t, first, second, third), 0, 1, 2, 5000, 5001)
			}
		}
	}
}

// TestOverLeaves has full tables with one connection that is over, at each place: it
// is removed, and then the first one of all.
func TestOverLeaves(t *testing.T) {
	const room = 6
	for over := 5; over <= 6; over++ {
		for state := 1; state <= 4; state++ {
			for place := range room {
				states := []int{state, state, state, state, state, state}
				states[place] = over
				leave := []int{place}
				for n := range room {
					if n != place {
						leave = append(leave, n)
					}
				}
				checkLeave(t, filled(t, states...), leave...)
			}
		}
	}
}

// TestOversLeave has full tables with all mixtures of connections that are over and
// others: the first one that is over is removed, not the one that was over first.
func TestOversLeave(t *testing.T) {
	const room = 4
	kinds := []int{1, 2, 3, 4, 5, 6}
	for mixture := range 6 * 6 * 6 * 6 {
		var states, over, others []int
		for n, rest := 0, mixture; n < room; n, rest = n+1, rest/6 {
			state := kinds[rest%6]
			states = append(states, state)
			if state >= 5 {
				over = append(over, n)
			} else {
				others = append(others, n)
			}
		}
		leave := append(over, others...)
		checkLeave(t, filled(t, states...), leave...)
		checkLeave(t, backwards(t, states), leave...)
	}
}

// backwards is like filled, but the last connection gets its state first.
func backwards(t *testing.T, states []int) *track.Table {
	t.Helper()
	x := made(t, len(states))
	for n := range states {
		checkSee(t, x, number(n), step{syn, outward}, 1)
	}
	for n := len(states) - 1; n >= 0; n-- {
		for _, s := range to[states[n]][1:] {
			see(x, number(n), s)
		}
		checkState(t, x, number(n), states[n])
	}
	return x
}

// TestOthersDoNotEnter has a full table and segments that begin no connection: they
// remove none.
func TestOthersDoNotEnter(t *testing.T) {
	for flags := range 64 {
		if flags&syn != 0 && flags&(ack|rst) == 0 {
			continue
		}
		x := filled(t, 1, 2, 6, 5)
		for _, in := range []bool{outward, inward} {
			checkSee(t, x, number(9), step{flags, in}, 0)
		}
		checkLen(t, x, 4)
		for n, state := range []int{1, 2, 6, 5} {
			checkState(t, x, number(n), state)
		}
	}
}

// TestStays has a connection that is in the table, and goes through all states: it
// needs no other room, whatever segment it has.
func TestStays(t *testing.T) {
	x := filled(t, 3, 1, 5)
	for _, s := range []step{{fin, outward}, {fin, inward}, {syn, inward}, {rst, inward}, {ack, inward}, {syn, inward}, {syn, outward}, {ack, inward}} {
		see(x, number(0), s)
		checkLen(t, x, 3)
		checkState(t, x, number(1), 1)
		checkState(t, x, number(2), 5)
	}
	checkState(t, x, number(0), 3)
	checkLeave(t, x, 2, 0, 1)
}

// TestKeepsItsPlace has a connection that leaves state 6 at each place of a full
// table: it is removed in the order in which it came first.
func TestKeepsItsPlace(t *testing.T) {
	for place := range 3 {
		for _, s := range []step{{syn, outward}, {syn | fin, inward}, {syn | psh | urg, inward}} {
			states := []int{3, 1, 4}
			states[place] = 6
			x := filled(t, states...)
			checkSee(t, x, number(place), s, 1)
			checkLen(t, x, 3)
			checkLeave(t, x, 0, 1, 2)
		}
	}
}

// TestSeenAgain has segments of connections in the table: they change no place.
func TestSeenAgain(t *testing.T) {
	x := filled(t, 3, 3, 3)
	checkSee(t, x, number(0), step{ack, outward}, 3)
	checkSee(t, x, number(1), step{syn, outward}, 3)
	checkSee(t, x, number(0), step{fin, inward}, 4)
	checkLeave(t, x, 0, 1, 2)
}

// TestComesAgain has a connection that was removed: it is a new one, at the end.
func TestComesAgain(t *testing.T) {
	x := filled(t, 3, 3, 3)
	enter(t, x, number(3), 1)
	checkSee(t, x, number(0), step{ack, outward}, 0)
	checkSee(t, x, number(0), step{syn, inward}, 1)
	checkState(t, x, number(1), 0)
	checkSee(t, x, number(0), step{syn, inward}, 1)
	checkLeave(t, x, 2, 3, 0)
}

// TestForget has connections of three ports of the gateway.
func TestForget(t *testing.T) {
	for _, out := range []int{1, 2, 3, 4, 0, -1, math.MinInt, math.MaxInt, 1 << 32, 1<<32 + 1, 80, 81} {
		x := made(t, 9)
		var all []talk
		for n := range 9 {
			k := talk{1 + n%3, peer(n / 3), 80 + n/3}
			all = append(all, k)
			enter(t, x, k, 1+n%6)
		}
		x.Forget(out)
		left := 0
		for n, k := range all {
			if k.out == out {
				checkState(t, x, k, 0)
				continue
			}
			checkState(t, x, k, 1+n%6)
			left++
		}
		checkLen(t, x, left)
		for _, k := range all {
			if k.out == out {
				checkSee(t, x, k, step{ack, inward}, 0)
				checkSee(t, x, k, step{syn, inward}, 1)
			}
		}
		checkLen(t, x, 9)
	}
}

// TestForgetAll has connections of each state, of one port only.
func TestForgetAll(t *testing.T) {
	x := made(t, 6)
	x.Forget(7)
	checkLen(t, x, 0)
	for state := 1; state <= 6; state++ {
		enter(t, x, talk{7, peer(state), 80}, state)
	}
	x.Forget(8)
	checkLen(t, x, 6)
	x.Forget(7)
	checkLen(t, x, 0)
	x.Forget(7)
	checkLen(t, x, 0)
	for state := 1; state <= 6; state++ {
		checkState(t, x, talk{7, peer(state), 80}, 0)
	}
	enter(t, x, talk{7, peer(3), 80}, 3)
	checkLen(t, x, 1)
}

// TestForgetGivesRoom has a full table of which one is forgotten, at each place: the
// next one removes none, and the order of the others is the same.
func TestForgetGivesRoom(t *testing.T) {
	const room = 4
	states := []int{1, 2, 3, 4, 1}
	for place := range room {
		x := filled(t, states[:room]...)
		x.Forget(number(place).out)
		checkLen(t, x, room-1)
		enter(t, x, number(room), states[room])
		checkLen(t, x, room)
		var leave []int
		for n, state := range states {
			if n != place {
				checkState(t, x, number(n), state)
				leave = append(leave, n)
			}
		}
		checkLeave(t, x, leave...)
	}
}
