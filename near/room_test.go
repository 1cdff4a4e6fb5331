package near_test

import (
	"testing"

	"gatehouse/api"
	"gatehouse/near"
)

// filled returns a table with one known address and others that are requested,
// and tells which it is.
func filled(t *testing.T, known int) *near.Table {
	t.Helper()
	n := made(t, 600)
	for i := range api.MaxNear {
		if i == known {
			n.Learn(at(i), mac(i), 0, true)
		} else {
			checkWant(t, n, at(i), "first", 0, asks)
		}
		checkLen(t, n, i+1)
	}
	return n
}

// TestRoomOfLearn has a table full of known addresses, to which one is added.
func TestRoomOfLearn(t *testing.T) {
	for eldest := range api.MaxNear {
		n := made(t, 600)
		for i := range api.MaxNear {
			now := int64(5)
			if i == 0 {
				now = 4
			}
			checkLearn(t, n, at((i+eldest)%api.MaxNear), mac(i), now, true)
		}
		checkLen(t, n, api.MaxNear)
		checkLearn(t, n, at(99), mac(99), 6, false)
		checkMac(t, n, at(eldest), 6, mac(0))
		checkLearn(t, n, at(99), mac(99), 6, true)
		checkLen(t, n, api.MaxNear)
		checkMac(t, n, at(99), 6, mac(99))
		checkNoMac(t, n, at(eldest), 6)
		for i := 1; i < api.MaxNear; i++ {
			checkMac(t, n, at((i+eldest)%api.MaxNear), 6, mac(i))
		}
	}
}

// TestRoomOfWant has the same for an address that is requested.
func TestRoomOfWant(t *testing.T) {
	for eldest := range api.MaxNear {
		n := made(t, 600)
		for i := range api.MaxNear {
			now := int64(5)
			if i == 0 {
				now = 4
			}
			n.Learn(at((i+eldest)%api.MaxNear), mac(i), now, true)
		}
		checkWant(t, n, at(99), "a", 6, asks)
		checkWant(t, n, at(99), "b", 6, waits)
		checkLen(t, n, api.MaxNear)
		checkNoMac(t, n, at(eldest), 6)
		checkNoMac(t, n, at(99), 6)
		checkLearn(t, n, at(99), mac(99), 6, false, "a", "b")
		for i := 1; i < api.MaxNear; i++ {
			checkMac(t, n, at((i+eldest)%api.MaxNear), 6, mac(i))
		}
	}
}

// TestEqualTimes has known addresses of the same time, added in descending and
// in mixed order: the least goes first, then the next.
func TestEqualTimes(t *testing.T) {
	for _, stride := range []int{1, 3, 11, 31} {
		n := made(t, 600)
		for i := range api.MaxNear {
			n.Learn(at(i*stride%api.MaxNear), mac(i), 5, true)
		}
		for i := range api.MaxNear {
			checkMac(t, n, at(i), 5, mac(i*inverse(stride)%api.MaxNear))
			checkLearn(t, n, at(100+i), mac(i), 6, true)
			checkNoMac(t, n, at(i), 6)
			checkLen(t, n, api.MaxNear)
			if i+1 < api.MaxNear {
				checkMac(t, n, at(i+1), 6, mac((i+1)*inverse(stride)%api.MaxNear))
			}
		}
	}
}

// inverse returns the number with which stride makes 1, but for multiples of
// MaxNear.
func inverse(stride int) int {
	for i := range api.MaxNear {
		if i*stride%api.MaxNear == 1 {
			return i
		}
	}
	return 0
}

// TestEqualTimesOfTheNew has a new address of the least number and of the same
// time as all others: it is not the one that is removed for itself.
func TestEqualTimesOfTheNew(t *testing.T) {
	n := made(t, 600)
	for i := range api.MaxNear {
		n.Learn(at(10+i), mac(i), 5, true)
	}
	checkLearn(t, n, at(1), mac(1), 5, true)
	checkMac(t, n, at(1), 5, mac(1))
	checkNoMac(t, n, at(10), 5)
	// then it is the least itself
	checkLearn(t, n, at(2), mac(2), 5, true)
	checkNoMac(t, n, at(1), 5)
	checkMac(t, n, at(2), 5, mac(2))
	checkMac(t, n, at(11), 5, mac(1))
}

// TestLearnedAgain has an address whose time is the last Learn, not the first.
func TestLearnedAgain(t *testing.T) {
	n := made(t, 600)
	for i := range api.MaxNear {
		n.Learn(at(i), mac(i), int64(i), true)
	}
	checkLearn(t, n, at(0), mac(50), 40, false)
	checkLen(t, n, api.MaxNear)
	checkWant(t, n, at(0), "a", 40, isAt(mac(50)))
	checkWant(t, n, at(99), "a", 40, asks)
	checkMac(t, n, at(0), 40, mac(50))
	checkNoMac(t, n, at(1), 40)
	checkMac(t, n, at(2), 40, mac(2))
}

// TestRequestedAreNotRemoved has one known address at each place among requested
// ones, which are older than it.
func TestRequestedAreNotRemoved(t *testing.T) {
	for known := range api.MaxNear {
		n := filled(t, known)
		checkMac(t, n, at(known), 0, mac(known))
		n.Learn(at(known), mac(77), 9, false)
		checkWant(t, n, at(99), "a", 10, asks)
		checkLen(t, n, api.MaxNear)
		checkNoMac(t, n, at(known), 10)
		for i := range api.MaxNear {
			if i != known {
				checkLearn(t, n, at(i), mac(i), 10, false, "first")
			}
		}
		checkLearn(t, n, at(99), mac(99), 10, false, "a")
	}
}

// TestNoRoom has a table full of requested addresses.
func TestNoRoom(t *testing.T) {
	n := filled(t, -1)
	checkWant(t, n, at(99), "a", 0, waits)
	checkWant(t, n, at(99), "b", 1, waits)
	checkLearn(t, n, at(99), mac(99), 1, true)
	checkLearn(t, n, at(99), mac(99), 1, false)
	checkLen(t, n, api.MaxNear)
	checkNoMac(t, n, at(99), 1)
	// those that are there have room for themselves
	checkWant(t, n, at(7), "second", 1, asks)
	checkLearn(t, n, at(7), mac(7), 1, true, "first", "second")
	checkLen(t, n, api.MaxNear)
	// and the one that is known now makes room
	checkWant(t, n, at(99), "c", 1, asks)
	checkLen(t, n, api.MaxNear)
	checkNoMac(t, n, at(7), 1)
	checkWant(t, n, at(7), "d", 1, waits)
	checkLearn(t, n, at(99), mac(99), 1, false, "c")
	checkLearn(t, n, at(7), mac(7), 2, true)
	checkLen(t, n, api.MaxNear)
	checkMac(t, n, at(7), 2, mac(7))
	checkNoMac(t, n, at(99), 2)
}

// TestNoRoomChangesNothing has a Want without room between those of the others,
// whose requests and packets are as they were.
func TestNoRoomChangesNothing(t *testing.T) {
	n := filled(t, -1)
	for range 3 {
		checkWant(t, n, at(-1), "a", 0, waits)
		checkWant(t, n, at(99), "a", 0, waits)
	}
	var all []api.Addr
	for i := range api.MaxNear {
		all = append(all, at(i))
	}
	checkTick(t, n, 1, all...)
	checkTick(t, n, 2, all...)
	checkWant(t, n, at(99), "a", 2, waits)
	checkLearn(t, n, at(31), mac(31), 2, false, "first")
	checkTick(t, n, 3)
	checkLen(t, n, 1)
	checkMac(t, n, at(31), 3, mac(31))
	checkWant(t, n, at(99), "a", 3, asks)
}

// TestRoomOfOneTooOld has a full table in which a known address is too old: a
// Want of it removes it and no other, and room is made as from all known ones.
func TestRoomOfOneTooOld(t *testing.T) {
	n := made(t, 10)
	for i := range api.MaxNear {
		n.Learn(at(i), mac(i), int64(i/16), true)
	}
	checkWant(t, n, at(20), "a", 11, asks)
	checkLen(t, n, api.MaxNear)
	checkWant(t, n, at(20), "b", 11, waits)
	// all of them are too old, and all but the one are still there
	for i := range api.MaxNear {
		if i != 20 {
			checkLearn(t, n, at(i), mac(100+i), 11, false)
			checkMac(t, n, at(i), 11, mac(100+i))
		}
	}
	checkLearn(t, n, at(20), mac(120), 11, false, "a", "b")
	checkLen(t, n, api.MaxNear)
}

// TestRoomAfterTick has a full table of which Tick and Forget make it empty.
func TestRoomAfterTick(t *testing.T) {
	for _, forget := range []bool{false, true} {
		n := filled(t, -1)
		if forget {
			n.Forget()
		} else {
			n.Tick(1)
			n.Tick(2)
			n.Tick(3)
		}
		checkLen(t, n, 0)
		for i := range api.MaxNear {
			checkWant(t, n, at(200+i), "new", 3, asks)
			checkLen(t, n, i+1)
		}
		checkWant(t, n, at(300), "new", 3, waits)
		checkLearn(t, n, at(203), mac(3), 3, false, "new")
	}
}
