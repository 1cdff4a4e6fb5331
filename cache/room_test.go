package cache_test

import (
	"strconv"
	"testing"

	"gatehouse/api"
	"gatehouse/cache"
	"gatehouse/dns"
)

// number returns the question number n.
func number(n int) dns.Question { return asks("q" + strconv.Itoa(n)) }

// filled returns a cache that is full of answers to the questions from number 0 on,
// stored at 0 with these lifetimes.
func filled(t *testing.T, secs ...uint32) *cache.Cache {
	t.Helper()
	c := made(t, len(secs))
	for n, s := range secs {
		checkPut(t, c, number(n), answer(s), 0, true)
	}
	checkLen(t, c, 0, len(secs))
	return c
}

// has reports whether there is an answer to q at now.
func has(c *cache.Cache, q dns.Question, now int64) bool {
	_, ok := c.Get(q, 1, now)
	return ok
}

// checkLeave has the numbers of the questions whose answers, stored at 0, are removed
// one by one when new ones are stored at now, which live longer.
func checkLeave(t *testing.T, c *cache.Cache, now int64, leave ...int) {
	t.Helper()
	for i, n := range leave {
		if !has(c, number(n), 0) {
			t.Errorf("P22.1: number %d left too soon, before the one at %d of %v", n, i, leave)
		}
		checkPut(t, c, number(5000+n), answer(day), now, true)
		checkNone(t, c, number(n), 0)
		if !has(c, number(5000+n), now) {
			t.Errorf("P22.1: the new answer that came for number %d is missing", n)
		}
	}
}

// TestRooms has caches of all rooms: as many answers as there is room for, and then
// more.
func TestRooms(t *testing.T) {
	for room := 1; room <= 64; room++ {
		c := made(t, room)
		for n := range room {
			checkPut(t, c, number(n), answer(uint32(100+n)), 0, true)
			checkLen(t, c, 0, n+1)
		}
		for n := range room {
			checkGet(t, c, number(n), 1, 0, told(answer(uint32(100+n)), number(n), 1, 0))
		}
		for n := range room {
			checkLeave(t, c, 0, n)
			checkLen(t, c, 0, room)
			for later := n + 1; later < room; later++ {
				if !has(c, number(later), 0) {
					t.Errorf("P22.1: with room %d, number %d left before number %d", room, later, n)
				}
			}
		}
	}
}

// TestFirstEndLeaves has full caches with the ends in all orders.
func TestFirstEndLeaves(t *testing.T) {
	checkLeave(t, filled(t, 1, 2, 3, 4), 0, 0, 1, 2, 3)
	checkLeave(t, filled(t, 4, 3, 2, 1), 0, 3, 2, 1, 0)
	checkLeave(t, filled(t, 3, 1, 4, 2), 0, 1, 3, 0, 2)
	checkLeave(t, filled(t, 2, 4, 1, 3), 0, 2, 0, 3, 1)
	for room := 1; room <= 64; room++ {
		for least := range room {
			secs := make([]uint32, room)
			for n := range secs {
				secs[n] = 60
			}
			secs[least] = 59
			checkLeave(t, filled(t, secs...), 1, least)
		}
	}
}

// TestFirstStoredLeaves has answers with the same end.
func TestFirstStoredLeaves(t *testing.T) {
	checkLeave(t, filled(t, 5, 5, 5, 5), 0, 0, 1, 2, 3)
	checkLeave(t, filled(t, 5, 3, 5, 3), 0, 1, 3, 0, 2)
	checkLeave(t, filled(t, 3, 5, 3, 5), 0, 0, 2, 1, 3)
	checkLeave(t, filled(t, 5, 5, 3, 3), 0, 2, 3, 0, 1)
}

// TestEndsCount has answers that were stored at other times than in the order of
// their ends.
func TestEndsCount(t *testing.T) {
	c := made(t, 3)
	checkPut(t, c, number(0), answer(50), 0, true)
	checkPut(t, c, number(1), answer(10), 30, true)
	checkPut(t, c, number(2), answer(1), 45, true)
	checkPut(t, c, number(3), answer(90), 46, true) // in place of number 1, with the end 40
	checkLen(t, c, 45, 2)
	checkNone(t, c, number(1), 30)
	checkPut(t, c, number(4), answer(90), 46, true) // in place of number 2, with the end 46
	checkNone(t, c, number(2), 45)
	if !has(c, number(0), 46) {
		t.Errorf("P22.1: number 0, with the end 50, left")
	}
	checkPut(t, c, number(5), answer(90), 46, true)
	checkNone(t, c, number(0), 0)
	checkLen(t, c, 46, 3)
}

// TestSameEndFromOtherTimes has answers that came at different times for the same end.
func TestSameEndFromOtherTimes(t *testing.T) {
	c := made(t, 3)
	checkPut(t, c, number(0), answer(30), 0, true)
	checkPut(t, c, number(1), answer(20), 10, true)
	checkPut(t, c, number(2), answer(10), 20, true)
	for n := range 3 {
		checkPut(t, c, number(10+n), answer(90), 20, true)
		checkNone(t, c, number(n), 20)
		checkLen(t, c, 20, 3)
	}
}

// TestExpiredOnesTakeRoom has answers that are over, which stay until others take
// their place: an earlier time still finds them.
func TestExpiredOnesTakeRoom(t *testing.T) {
	c := filled(t, 10, 20, 30)
	checkLen(t, c, 9, 3)
	checkLen(t, c, 10, 2)
	checkLen(t, c, 20, 1)
	checkLen(t, c, 30, 0)
	for n := range 3 {
		checkNone(t, c, number(n), 1000)
	}
	checkLen(t, c, 0, 3)
	checkPut(t, c, number(3), answer(60), 1000, true)
	checkLen(t, c, 1000, 1)
	checkLen(t, c, 0, 2)
	checkNone(t, c, number(0), 0)
	checkLeave(t, c, 1000, 1, 2)
	checkLen(t, c, 1000, 3)
}

// TestPutReplaces has answers to questions that have one, which take no room.
func TestPutReplaces(t *testing.T) {
	for n := range 3 {
		for _, secs := range []uint32{1, 20, 30, 40, 99} {
			for _, now := range []int64{0, 1, 15, 500} {
				c := filled(t, 20, 30, 40)
				checkPut(t, c, number(n), answer(secs, secs+1), now, true)
				checkGet(t, c, number(n), 1, now, told(answer(secs, secs+1), number(n), 1, 0))
				checkNone(t, c, number(n), now-1)
				checkNone(t, c, number(n), now+int64(secs))
				for other := range 3 {
					if other != n {
						checkGet(t, c, number(other), 1, 0, told(answer(uint32(20+10*other)), number(other), 1, 0))
					}
				}
			}
		}
	}
}

// TestReplacedAreStoredLater has answers with the same end, of which one is replaced:
// it is the last of them that was stored.
func TestReplacedAreStoredLater(t *testing.T) {
	for n, leave := range [][]int{{1, 2, 3, 0}, {0, 2, 3, 1}, {0, 1, 3, 2}, {0, 1, 2, 3}} {
		c := filled(t, 30, 30, 30, 30)
		checkPut(t, c, number(n), answer(30), 0, true)
		checkLeave(t, c, 0, leave...)
		c = made(t, 4)
		for n := range 3 {
			checkPut(t, c, number(n), answer(30), 0, true)
		}
		checkPut(t, c, number(n), answer(30), 0, true)
		checkPut(t, c, number(3), answer(30), 0, true)
		checkLen(t, c, 0, 4)
	}
	c := filled(t, 30, 30, 30)
	checkPut(t, c, number(1), answer(20), 0, true)
	checkPut(t, c, number(0), answer(30), 0, true)
	checkLeave(t, c, 0, 1, 2, 0)
}

// TestReplacedEndCounts has an answer whose end becomes another one.
func TestReplacedEndCounts(t *testing.T) {
	c := filled(t, 10, 20, 30)
	checkPut(t, c, number(0), answer(25), 0, true)
	checkLeave(t, c, 0, 1, 0, 2)
	c = filled(t, 10, 20, 30)
	checkPut(t, c, number(2), answer(5), 0, true)
	checkLeave(t, c, 0, 2, 0, 1)
	c = filled(t, 10, 20, 30)
	checkPut(t, c, number(0), denial(soa(29, 3000)), 0, true)
	checkLeave(t, c, 0, 1, 0, 2)
}

// TestDecreasingTimes has calls at earlier times than former ones, which count as they
// are; of several answers with the same end, that of the first call leaves first.
func TestDecreasingTimes(t *testing.T) {
	c := made(t, 2)
	checkPut(t, c, number(0), answer(10), 100, true)
	checkPut(t, c, number(1), answer(60), 50, true)
	checkNone(t, c, number(0), 99)
	checkLen(t, c, 99, 1)
	checkLen(t, c, 100, 2)
	checkLen(t, c, 49, 0)
	checkGet(t, c, number(1), 1, 109, told(answer(60), number(1), 1, 59))
	checkGet(t, c, number(1), 1, 50, told(answer(60), number(1), 1, 0))
	checkPut(t, c, number(2), answer(99), 0, true)
	checkNone(t, c, number(0), 100)
	checkLen(t, c, 50, 2)
	checkPut(t, c, number(1), answer(10), 20, true)
	checkGet(t, c, number(1), 1, 29, told(answer(10), number(1), 1, 9))
	checkNone(t, c, number(1), 50)
}

// TestRefusedPuts has messages that may not be stored, by each of the reasons, for
// questions with and without an answer: nothing is removed.
func TestRefusedPuts(t *testing.T) {
	changes := []func(m *dns.Message, now *int64){
		func(m *dns.Message, _ *int64) { m.Flags = 0 },
		func(m *dns.Message, _ *int64) { m.Flags |= 512 },
		func(m *dns.Message, _ *int64) { m.Flags |= 2 },
		func(m *dns.Message, _ *int64) { m.Answers[0].Ttl = 0 },
		func(m *dns.Message, _ *int64) { m.Answers = nil },
		func(_ *dns.Message, now *int64) { *now = -1 },
		func(_ *dns.Message, now *int64) { *now = api.MaxTime + 1 },
	}
	for _, change := range changes {
		c := filled(t, 30, 20, 30)
		for _, q := range []dns.Question{number(0), number(1), number(2), number(3), asks("Q1")} {
			m, now := answer(99, 88), int64(1)
			change(&m, &now)
			checkPut(t, c, q, m, now, false)
		}
		for n := range 3 {
			if !has(c, number(n), 0) || !has(c, number(n), 19) {
				t.Errorf("P22.1, R3: number %d was removed", n)
			}
		}
		checkLen(t, c, 19, 3)
		checkLen(t, c, 20, 2)
		checkNone(t, c, number(3), 1)
		checkLeave(t, c, 0, 1, 0, 2)
	}
}

func TestClear(t *testing.T) {
	for room := range 5 {
		c := filled(t, []uint32{10, 20, 10, 5, 7}[:room+1]...)
		for range 2 {
			c.Clear()
			for _, now := range []int64{-1, 0, 1, 9, 1000} {
				checkLen(t, c, now, 0)
				for n := range room + 1 {
					checkNone(t, c, number(n), now)
				}
			}
		}
		for n := range room + 1 {
			checkPut(t, c, number(n), answer(uint32(50-n)), 2, true)
			checkLen(t, c, 2, n+1)
		}
		for n := room; n >= 0; n-- {
			checkPut(t, c, number(100+n), answer(60), 2, true)
			checkNone(t, c, number(n), 2)
			checkLen(t, c, 2, room+1)
		}
	}
	c := made(t, 1)
	c.Clear()
	checkLen(t, c, 0, 0)
	checkPut(t, c, number(0), answer(9), 0, true)
	checkLen(t, c, 0, 1)
}
