package near_test

import (
	"bytes"
	"math"
	"slices"
	"testing"

	"gatehouse/addr"
	"gatehouse/api"
	"gatehouse/near"
)

func made(t *testing.T, age int) *near.Table {
	t.Helper()
	n, e := near.New(age)
	if e != api.OK || n == nil {
		t.Fatalf("P11.1: New(%d): %v, %d", age, n, e)
	}
	return n
}

// at returns the address of the neighbour number n, and mac a MAC address.
func at(n int) api.Addr { return addr.Of(uint32(0x0a0000f0 + n)) }

func mac(n int) api.Mac { return api.Mac{byte(n), 3, 5, 7, byte(n >> 8), byte(n ^ 0xa5)} }

// noise returns n bytes that hang on seed.
func noise(n, seed int) []byte {
	b := make([]byte, n)
	for i := range b {
		b[i] = byte(31*i + 7*i*i + seed)
	}
	return b
}

func samePackets(a, b [][]byte) bool { return slices.EqualFunc(a, b, bytes.Equal) }

// asks and waits are what Want tells of an address that is not known.
var (
	asks  = near.Next{Ask: true}
	waits = near.Next{}
)

func isAt(m api.Mac) near.Next { return near.Next{Mac: m, Known: true} }

func checkWant(t *testing.T, n *near.Table, a api.Addr, b string, now int64, want near.Next) {
	t.Helper()
	if x := n.Want(a, []byte(b), now); x != want {
		t.Errorf("P11.1, R2: Want(%v, %q, %d): %v instead of %v", a, b, now, x, want)
	}
}

func checkLearn(t *testing.T, n *near.Table, a api.Addr, m api.Mac, now int64, known bool, want ...string) {
	t.Helper()
	var packets [][]byte
	for _, w := range want {
		packets = append(packets, []byte(w))
	}
	if l := n.Learn(a, m, now, known); !samePackets(l, packets) {
		t.Errorf("P11.1: Learn(%v, %v, %d, %v): %q instead of %q", a, m, now, known, l, want)
	}
}

func checkTick(t *testing.T, n *near.Table, now int64, want ...api.Addr) {
	t.Helper()
	if l := n.Tick(now); !slices.Equal(l, want) {
		t.Errorf("P11.2: Tick(%d): %v instead of %v", now, l, want)
	}
}

func checkLen(t *testing.T, n *near.Table, want int) {
	t.Helper()
	if l := n.Len(); l != want {
		t.Errorf("P11.2: Len: %d instead of %d", l, want)
	}
}

func checkMac(t *testing.T, n *near.Table, a api.Addr, now int64, want api.Mac) {
	t.Helper()
	if m, ok := n.Mac(a, now); !ok || m != want {
		t.Errorf("P11.2: Mac(%v, %d): %v, %v instead of %v", a, now, m, ok, want)
	}
}

func checkNoMac(t *testing.T, n *near.Table, a api.Addr, now int64) {
	t.Helper()
	if m, ok := n.Mac(a, now); ok || m != (api.Mac{}) {
		t.Errorf("P11.2, R2: Mac(%v, %d): %v, %v instead of none", a, now, m, ok)
	}
}

func TestNew(t *testing.T) {
	for age := 1; age <= 86400; age++ {
		checkLen(t, made(t, age), 0)
	}
	wrong := []int{0, -1, -2, -600, -86400, 86401, 86402, 1 << 20, 1<<32 + 1, math.MaxInt32, math.MinInt32, math.MaxInt, math.MinInt}
	for _, age := range wrong {
		if n, e := near.New(age); n != nil || e != api.EARG {
			t.Errorf("P11.1, R2: New(%d): %v, %d", age, n, e)
		}
	}
}

// TestEmpty has all calls of a table that has nothing.
func TestEmpty(t *testing.T) {
	n := made(t, 600)
	checkTick(t, n, 0)
	checkNoMac(t, n, at(1), 0)
	checkNoMac(t, n, api.Addr{}, 0)
	checkLearn(t, n, at(1), mac(1), 0, false)
	checkLearn(t, n, api.Addr{}, api.Mac{}, 0, false)
	n.Forget()
	checkLen(t, n, 0)
}

// TestFirstWants has the examples of the chapter for Learn and Want.
func TestFirstWants(t *testing.T) {
	n := made(t, 600)
	checkLearn(t, n, at(1), mac(1), 0, false)
	checkLen(t, n, 0)
	checkWant(t, n, at(1), "a", 0, asks)
	checkLen(t, n, 1)
	checkWant(t, n, at(1), "b", 0, waits)
	checkLen(t, n, 1)
	checkLearn(t, n, at(1), mac(1), 0, false, "a", "b")
	checkLen(t, n, 1)
	checkWant(t, n, at(1), "c", 0, isAt(mac(1)))
	checkLearn(t, n, at(1), mac(1), 0, false)
	checkMac(t, n, at(1), 0, mac(1))
}

// TestLearn has addresses of each kind, with known and without.
func TestLearn(t *testing.T) {
	for _, known := range []bool{false, true} {
		n := made(t, 10)
		n.Learn(at(1), mac(1), 0, true)
		n.Want(at(2), []byte("two"), 0)
		checkLen(t, n, 2)
		checkLearn(t, n, at(1), mac(11), 4, known)
		checkMac(t, n, at(1), 4, mac(11))
		checkLearn(t, n, at(2), mac(12), 5, known, "two")
		checkMac(t, n, at(2), 5, mac(12))
		checkLen(t, n, 2)
		checkLearn(t, n, at(3), mac(13), 6, known)
		if known {
			checkMac(t, n, at(3), 6, mac(13))
			checkLen(t, n, 3)
		} else {
			checkNoMac(t, n, at(3), 6)
			checkLen(t, n, 2)
		}
		// each is as old as its last Learn
		checkMac(t, n, at(1), 13, mac(11))
		checkNoMac(t, n, at(1), 14)
		checkMac(t, n, at(2), 14, mac(12))
		checkNoMac(t, n, at(2), 15)
	}
}

// TestLearnOfOneThatIsTooOld has an address that nothing has removed yet.
func TestLearnOfOneThatIsTooOld(t *testing.T) {
	for _, known := range []bool{false, true} {
		n := made(t, 10)
		n.Learn(at(1), mac(1), 0, true)
		checkNoMac(t, n, at(1), 50)
		checkLen(t, n, 1)
		checkLearn(t, n, at(1), mac(2), 50, known)
		checkLen(t, n, 1)
		checkMac(t, n, at(1), 59, mac(2))
		checkNoMac(t, n, at(1), 60)
	}
}

// TestAllAddresses has addresses and MAC addresses with each byte on its own,
// and those of no single host, which are as good as others.
func TestAllAddresses(t *testing.T) {
	addrs := []api.Addr{{}, {255, 255, 255, 255}, {224, 0, 0, 1}, {127, 0, 0, 1}, {0, 0, 0, 1}, {1}, {0, 1}, {0, 0, 1}}
	macs := []api.Mac{{}, {255, 255, 255, 255, 255, 255}, {1}, {0, 1}, {0, 0, 1}, {0, 0, 0, 1}, {0, 0, 0, 0, 1}, {0, 0, 0, 0, 0, 1}}
	n := made(t, 600)
	for i, a := range addrs {
		checkNoMac(t, n, a, 0)
		checkWant(t, n, a, string(a[:]), 0, asks)
		checkLen(t, n, i+1)
	}
	for i, a := range addrs {
		checkLearn(t, n, a, macs[i], 0, false, string(a[:]))
	}
	for i, a := range addrs {
		checkMac(t, n, a, 0, macs[i])
		checkWant(t, n, a, "", 0, isAt(macs[i]))
	}
	checkLen(t, n, len(addrs))
}

// TestWaiting has more packets than may wait, empty ones among them, and a
// further request that has no room for its packet.
func TestWaiting(t *testing.T) {
	n := made(t, 600)
	checkWant(t, n, at(1), "", 0, asks)
	checkWant(t, n, at(1), "b", 0, waits)
	if x := n.Want(at(1), nil, 0); x != waits {
		t.Errorf("P11.1: Want without bytes: %v", x)
	}
	checkWant(t, n, at(1), "b", 0, waits)
	checkWant(t, n, at(1), "e", 0, waits)
	checkWant(t, n, at(1), "f", 1, asks)
	checkWant(t, n, at(1), "g", 1, waits)
	checkLen(t, n, 1)
	checkLearn(t, n, at(1), mac(1), 1, false, "", "b", "", "b")
}

// TestWaitingOfEach has packets of several sizes for several addresses.
func TestWaitingOfEach(t *testing.T) {
	n := made(t, 600)
	sizes := []int{0, 1, 20, 1499, 1500, 1501, 70000}
	for count := range 7 {
		for i := range count {
			n.Want(at(count), noise(sizes[(i+count)%len(sizes)], i), int64(i/2))
		}
	}
	for count := range 7 {
		var want [][]byte
		for i := range min(count, 4) {
			want = append(want, noise(sizes[(i+count)%len(sizes)], i))
		}
		if l := n.Learn(at(count), mac(count), 9, false); !samePackets(l, want) {
			t.Errorf("P11.1: Learn of one for which %d packets came: %v", count, l)
		}
	}
	checkLen(t, n, 6)
}

// TestFurtherRequests has Wants at the same time, 1 later and much later.
func TestFurtherRequests(t *testing.T) {
	n := made(t, 1)
	for _, now := range []int64{7, 8, 9, 11, 1000, 86400, 1 << 33, api.MaxTime} {
		checkWant(t, n, at(1), "a", now, asks)
		checkWant(t, n, at(1), "b", now, waits)
		checkWant(t, n, at(1), "c", now, waits)
		checkLen(t, n, 1)
		checkNoMac(t, n, at(1), now)
	}
}

// TestAge has known addresses just before they are too old, and then.
func TestAge(t *testing.T) {
	for _, age := range []int64{1, 2, 10, 600, 86399, 86400} {
		for _, start := range []int64{0, 1, 5, 1 << 32, api.MaxTime - age} {
			n := made(t, int(age))
			n.Learn(at(1), mac(1), start, true)
			n.Learn(at(2), mac(2), start, true)
			checkTick(t, n, start+age-1)
			checkLen(t, n, 2)
			checkMac(t, n, at(1), start+age-1, mac(1))
			checkWant(t, n, at(1), "a", start+age-1, isAt(mac(1)))
			checkNoMac(t, n, at(1), start+age)
			checkLen(t, n, 2)
			checkWant(t, n, at(1), "b", start+age, asks)
			checkLen(t, n, 2)
			checkTick(t, n, start+age)
			checkLen(t, n, 1)
			checkLearn(t, n, at(1), mac(3), start+age, false, "b")
			checkLearn(t, n, at(2), mac(3), start+age, false)
			checkLen(t, n, 1)
		}
	}
}

// TestWantDoesNotRenew has a known address that is wanted all the time.
func TestWantDoesNotRenew(t *testing.T) {
	n := made(t, 10)
	n.Learn(at(1), mac(1), 0, true)
	for now := range int64(10) {
		checkWant(t, n, at(1), "a", now, isAt(mac(1)))
		checkMac(t, n, at(1), now, mac(1))
	}
	checkWant(t, n, at(1), "b", 10, asks)
	checkLearn(t, n, at(1), mac(1), 10, false, "b")
}

// TestTick has the example of the chapter.
func TestTick(t *testing.T) {
	n := made(t, 600)
	checkWant(t, n, at(1), "a", 0, asks)
	checkTick(t, n, 0)
	checkTick(t, n, 1, at(1))
	checkTick(t, n, 1)
	checkTick(t, n, 2, at(1))
	checkTick(t, n, 2)
	checkLen(t, n, 1)
	checkTick(t, n, 3)
	checkLen(t, n, 0)
	checkLearn(t, n, at(1), mac(1), 3, false)
	checkWant(t, n, at(1), "b", 3, asks)
	checkTick(t, n, 4, at(1))
	checkTick(t, n, 5, at(1))
	checkLearn(t, n, at(1), mac(1), 5, false, "b")
}

// TestTicksWithWants has all ways in which requests by Want and by Tick may
// follow each other, so that the third one is by either.
func TestTicksWithWants(t *testing.T) {
	for way := range 4 {
		n := made(t, 600)
		checkWant(t, n, at(1), "a", 0, asks)
		for i := range 2 {
			now := int64(i + 1)
			if way>>i&1 == 0 {
				checkTick(t, n, now, at(1))
				checkWant(t, n, at(1), "b", now, waits)
			} else {
				checkWant(t, n, at(1), "b", now, asks)
				checkTick(t, n, now)
			}
			checkLen(t, n, 1)
		}
		checkTick(t, n, 3)
		checkLen(t, n, 0)
		checkLearn(t, n, at(1), mac(1), 3, false)
	}
}

// TestManyWants has more than three requests, which only Want can make, and
// after which the next Tick that is late enough removes the address.
func TestManyWants(t *testing.T) {
	for last := int64(2); last < 9; last++ {
		n := made(t, 600)
		for now := range last + 1 {
			checkWant(t, n, at(1), "a", now, asks)
		}
		checkTick(t, n, last)
		checkLen(t, n, 1)
		checkTick(t, n, last+1)
		checkLen(t, n, 0)
		checkWant(t, n, at(1), "a", last+1, asks)
		checkTick(t, n, last+2, at(1))
	}
}

// TestTickOrder has addresses that differ in each byte, asked for in orders
// that are not theirs, and known ones between them. Their number is prime, so that
// each stride goes to all of them.
func TestTickOrder(t *testing.T) {
	ascending := []api.Addr{
		{}, {0, 0, 0, 2}, {0, 0, 0, 10}, {0, 0, 1, 0}, {0, 0, 1, 1}, {0, 0, 255, 0}, {0, 1, 0, 0}, {9, 255, 255, 255},
		{10, 0, 0, 9}, {10, 0, 0, 10}, {10, 0, 0, 100}, {10, 0, 9, 0}, {10, 9, 0, 0}, {127, 255, 255, 255}, {128, 0, 0, 0},
		{128, 0, 0, 1}, {255, 255, 255, 255},
	}
	for stride := 1; stride < len(ascending); stride++ {
		n := made(t, 600)
		var want []api.Addr
		for i := range ascending {
			a := ascending[i*stride%len(ascending)]
			if i%4 == 3 {
				n.Learn(a, mac(i), 0, true)
			} else if x := n.Want(a, nil, 0); x.Ask {
				want = append(want, a)
			}
		}
		slices.SortFunc(want, func(a, b api.Addr) int { return slices.Index(ascending, a) - slices.Index(ascending, b) })
		checkTick(t, n, 1, want...)
	}
}

// TestTickOfEachKind has at once all that may become of an address.
func TestTickOfEachKind(t *testing.T) {
	n := made(t, 10)
	n.Learn(at(1), mac(1), 1, true)
	n.Learn(at(2), mac(2), 2, true)
	for now := int64(8); now <= 10; now++ {
		n.Want(at(3), []byte("three"), now)
	}
	n.Want(at(7), []byte("seven"), 9)
	n.Want(at(5), []byte("five"), 10)
	for now := int64(9); now <= 11; now++ {
		n.Want(at(4), []byte("four"), now)
	}
	n.Want(at(6), []byte("six"), 11)
	checkLen(t, n, 7)
	checkTick(t, n, 11, at(5), at(7))
	checkLen(t, n, 5)
	checkNoMac(t, n, at(1), 11)
	checkMac(t, n, at(2), 11, mac(2))
	checkLearn(t, n, at(1), mac(1), 11, false)
	checkLearn(t, n, at(3), mac(1), 11, false)
	checkLearn(t, n, at(4), mac(1), 11, false, "four", "four", "four")
	checkLearn(t, n, at(5), mac(1), 11, false, "five")
	checkLearn(t, n, at(6), mac(1), 11, false, "six")
	checkLearn(t, n, at(7), mac(1), 11, false, "seven")
	checkLen(t, n, 5)
}

// TestForget has known addresses, one of them too old, and requested ones.
func TestForget(t *testing.T) {
	n := made(t, 10)
	n.Learn(at(1), mac(1), 0, true)
	n.Learn(at(3), mac(3), 20, true)
	for i := range 3 {
		n.Want(at(2*i), []byte("a"), 20)
		n.Want(at(2*i), []byte("b"), 21)
	}
	checkLen(t, n, 5)
	n.Forget()
	checkLen(t, n, 2)
	checkMac(t, n, at(3), 21, mac(3))
	checkTick(t, n, 19)
	checkLen(t, n, 1)
	for i := range 3 {
		checkLearn(t, n, at(2*i), mac(i), 21, false)
		checkWant(t, n, at(2*i), "c", 21, asks)
	}
	checkTick(t, n, 22, at(0), at(2), at(4))
	checkTick(t, n, 23, at(0), at(2), at(4))
	checkLearn(t, n, at(2), mac(2), 23, false, "c")
	n.Forget()
	n.Forget()
	checkLen(t, n, 2)
	checkMac(t, n, at(2), 23, mac(2))
}

// TestForgetOfOneTooOld has a known address that is too old, and that is still
// in the table after Forget.
func TestForgetOfOneTooOld(t *testing.T) {
	n := made(t, 10)
	n.Learn(at(1), mac(1), 0, true)
	checkNoMac(t, n, at(1), 10)
	n.Forget()
	checkLen(t, n, 1)
	checkLearn(t, n, at(1), mac(2), 10, false)
	checkMac(t, n, at(1), 10, mac(2))
}
