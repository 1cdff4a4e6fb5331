package lease_test

import (
	"math"
	"reflect"
	"slices"
	"testing"

	"gatehouse/api"
	"gatehouse/dhcp"
	"gatehouse/lease"
	"gatehouse/opt"
)

// harmless are calls with a time that do nothing but let it go by, whatever the state.
var harmless = []struct {
	name string
	call func(c *lease.Client, now int64)
}{
	{"a message without a type", func(c *lease.Client, now int64) { c.Get(dhcp.Message{}, now) }},
	{"a message of a client", func(c *lease.Client, now int64) { c.Get(dhcp.Message{Op: 1, Mac: mac()}, now) }},
	{"a message to another one", func(c *lease.Client, now int64) { c.Get(dhcp.Message{Op: 2, Xid: firstXid}, now) }},
	{"a message with another Xid", func(c *lease.Client, now int64) { c.Get(granted(1, 700), now) }},
	{"a message of a wrong type", func(c *lease.Client, now int64) {
		c.Get(reply(decline, firstXid), now)
		c.Get(reply(decline, nextXid), now)
	}},
	{"an ACK of no server", func(c *lease.Client, now int64) {
		c.Get(reply(ack, firstXid, lasts(700)), now)
		c.Get(reply(ack, nextXid, lasts(700)), now)
	}},
}

// TestTimesCount has the times of messages that do nothing, which later calls at 0
// are at.
func TestTimesCount(t *testing.T) {
	for _, h := range harmless {
		for _, now := range []int64{103, 104, 5000} {
			c := at(t, 1)
			h.call(c, now)
			if l := c.Tick(0, 5); (len(l) > 0) != (now >= 104) {
				t.Errorf("P16.1: Tick(0) after %s at %d: %+v", h.name, now, l)
			}
		}
		for _, now := range []int64{endAt - 1, endAt, 5000} {
			c := at(t, 5)
			h.call(c, now)
			c.Tick(0, 5)
			if s := c.State(); (s == 1) != (now >= endAt) {
				t.Errorf("P16.1: state %d after %s at %d", s, h.name, now)
			}
		}
		for _, state := range []int{0, 3} {
			c := at(t, state)
			h.call(c, 400)
			checkGet(t, c, offered(firstXid), 0, false)
			c.Lose()
			checkTick(t, c, 0, 6, seeking(6))
			checkTick(t, c, 403, 6)
			checkTick(t, c, 404, 6, seeking(6))
		}
	}
}

// oddTimes are out of range, or less than the one before them.
func oddTimes(before int64) []int64 {
	return []int64{before - 1, before - 50, 9, 1, 0, -1, -before, math.MinInt64, api.MaxTime + 1, api.MaxTime + before, math.MaxInt64}
}

// TestTimesDoNotDecrease has, after each kind of call, times that count as its time.
func TestTimesDoNotDecrease(t *testing.T) {
	for _, odd := range oddTimes(700) {
		c := lease.New(mac())
		checkTick(t, c, 700, 5, seeking(5))
		checkTick(t, c, odd, 6)
		checkTick(t, c, 703, 6)
		checkTick(t, c, 704, 6, seeking(5))
		checkGet(t, c, offered(5), odd, false, requesting(5, home(), his()))
		checkTick(t, c, 707, 6)
		checkTick(t, c, 708, 6, requesting(5, home(), his()))
		checkGet(t, c, granted(5, 800), odd, true)
		checkBound(t, c, 3, has(1508))
		checkTick(t, c, odd, 6)
		checkTick(t, c, 1107, 6)
		checkTick(t, c, 1108, 7, renewing(7, home()))
		checkTick(t, c, odd, 8)
		checkTick(t, c, 1167, 8)
		checkTick(t, c, 1168, 8, renewing(7, home()))
		checkTick(t, c, 1408, 8, renewing(7, home()))
		checkTick(t, c, odd, 8)
		checkTick(t, c, 1468, 8, renewing(7, home()))
		checkGet(t, c, granted(7, 100), odd, false)
		checkBound(t, c, 3, has(1568))
		checkTick(t, c, 1518, 9, renewing(9, home()))
		checkGet(t, c, refused(9), odd, true)
		checkTick(t, c, odd, 10, seeking(10))
		checkTick(t, c, 1521, 11)
		checkTick(t, c, 1522, 11, seeking(10))
		c.Lose()
		checkTick(t, c, odd, 12, seeking(12))
		checkTick(t, c, 1525, 13)
		checkTick(t, c, 1526, 13, seeking(12))
	}
}

// TestOddTimesOfGet has a greater time from Get, which the times after it count as.
func TestOddTimesOfGet(t *testing.T) {
	for _, odd := range oddTimes(200) {
		c := at(t, 1)
		checkGet(t, c, offered(firstXid), 200, false, requesting(firstXid, home(), his()))
		checkTick(t, c, odd, 5)
		checkGet(t, c, granted(firstXid, 100), odd, true)
		checkBound(t, c, 3, has(300))
		checkTick(t, c, 249, 5)
		checkTick(t, c, 250, 6, renewing(6, home()))
		checkGet(t, c, granted(6, 100), 290, false)
		checkTick(t, c, odd, 6)
		checkBound(t, c, 3, has(390))
		checkTick(t, c, 340, 7, renewing(7, home()))
		checkGet(t, c, refused(7), 350, true)
		checkTick(t, c, odd, 8, seeking(8))
		checkTick(t, c, 353, 9)
		checkTick(t, c, 354, 9, seeking(8))
	}
}

// TestLastTimes has the greatest time that counts, after which a lease still ends
// later.
func TestLastTimes(t *testing.T) {
	c := lease.New(mac())
	checkTick(t, c, api.MaxTime-150, 5, seeking(5))
	checkGet(t, c, offered(5), api.MaxTime-149, false, requesting(5, home(), his()))
	checkGet(t, c, granted(5, 200), api.MaxTime-100, true)
	checkBound(t, c, 3, has(api.MaxTime+100))
	checkTick(t, c, api.MaxTime+1, 6)
	checkTick(t, c, api.MaxTime-1, 6)
	checkTick(t, c, math.MaxInt64, 6)
	checkTick(t, c, api.MaxTime, 6, renewing(6, home()))
	checkGet(t, c, granted(6, math.MaxUint32), math.MaxInt64, false)
	checkBound(t, c, 3, has(api.MaxTime+1_000_000_000))
	checkTick(t, c, math.MaxInt64, 7)
	checkBound(t, c, 3, has(api.MaxTime+1_000_000_000))
	c.Lose()
	checkTick(t, c, math.MaxInt64, 8, seeking(8))
	checkTick(t, c, api.MaxTime, 9)
}

// spare returns b in memory that goes on behind its end.
func spare(b ...byte) []byte {
	return append(slices.Clone(b), 0xee, 0xee, 0xee, 0xee, 0xee, 0xee, 0xee, 0xee)[:len(b)]
}

// spoil writes over the bytes of b and all its spare capacity.
func spoil(b []byte) {
	b = b[:cap(b)]
	for i := range b {
		b[i] ^= 0xff
	}
}

// spoilAll writes over messages with all their memory.
func spoilAll(l []dhcp.Message) {
	for _, m := range l {
		for _, o := range m.Opts {
			spoil(o.Body)
		}
		clear(m.Opts[:cap(m.Opts)])
	}
	clear(l[:cap(l)])
}

// withSpare returns a message whose options, and their bytes, have spare capacity.
func withSpare(kind byte, xid uint32) dhcp.Message {
	m := reply(kind, xid)
	m.Opts = []opt.Option{
		{Code: 53, Body: spare(kind)}, {Code: 54, Body: spare(203, 0, 113, 1)}, {Code: 51, Body: spare(0, 0, 3, 0)},
		{Code: 1, Body: spare(255, 255, 254, 0)}, {Code: 3, Body: spare(198, 51, 100, 254, 9)},
		option(98, 1, 2), option(99), option(97),
	}[:5]
	return m
}

func checkWhole(t *testing.T, m, was dhcp.Message, state int) {
	t.Helper()
	for i, o := range was.Opts {
		b, wasB := m.Opts[i].Body, o.Body
		if !reflect.DeepEqual(b[:cap(b)], wasB[:cap(wasB)]) {
			t.Errorf("R4: the option %d of a message in state %d is now %v", o.Code, state, b[:cap(b)])
		}
	}
	if l := m.Opts[:cap(m.Opts)]; !reflect.DeepEqual(l, was.Opts[:cap(was.Opts)]) {
		t.Errorf("R4: the options of a message in state %d are now %v", state, l)
	}
}

// TestMessagesAreLeft has all types of messages in all states: none is changed,
// whatever the client does and whatever becomes of its messages.
func TestMessagesAreLeft(t *testing.T) {
	for state := range 6 {
		for kind := range byte(10) {
			c := at(t, state)
			m, was := withSpare(kind, xidOf(state)), withSpare(kind, xidOf(state))
			l, _ := c.Get(m, cameAt(state))
			spoilAll(l)
			for now := cameAt(state); now < 1000; now += 3 {
				spoilAll(c.Tick(now, 5))
			}
			checkWhole(t, m, was, state)
		}
	}
}

// TestMessagesAreNotKept writes over the options of messages that were taken.
func TestMessagesAreNotKept(t *testing.T) {
	c := at(t, 1)
	m := withSpare(offer, firstXid)
	l, _ := c.Get(m, offerAt)
	spoilAll([]dhcp.Message{m})
	if !sameMessages(l, []dhcp.Message{requesting(firstXid, home(), his())}) {
		t.Errorf("R4: the REQUEST shares memory with the OFFER: %+v", l)
	}
	checkTick(t, c, offerAt+4, 5, requesting(firstXid, home(), his()))
	m = withSpare(ack, firstXid)
	checkGet(t, c, m, offerAt+5, true)
	spoilAll([]dhcp.Message{m})
	checkBound(t, c, 3, has(offerAt+5+768))
	checkTick(t, c, offerAt+5+384, 6, renewing(6, home()))
}

// due are the calls that return messages in a state, with what they return.
func due(state int) (func(c *lease.Client) []dhcp.Message, dhcp.Message) {
	tick := func(c *lease.Client) []dhcp.Message { return c.Tick(cameAt(state)+60, 6) }
	switch state {
	case 0:
		return tick, seeking(6)
	case 1:
		return tick, seeking(firstXid)
	case 2:
		return tick, requesting(firstXid, home(), his())
	case 3:
		return func(c *lease.Client) []dhcp.Message { return c.Tick(t1At, 6) }, renewing(6, home())
	}
	return tick, renewing(nextXid, home())
}

// TestResultsAreNewMemory writes over each body with its spare capacity, which changes
// no other one, no former message and no later one.
func TestResultsAreNewMemory(t *testing.T) {
	for state := range 6 {
		call, want := due(state)
		for i := range want.Opts {
			l := call(at(t, state))
			spoil(l[0].Opts[i].Body)
			l[0].Opts[i] = want.Opts[i]
			if !sameMessages(l, []dhcp.Message{want}) {
				t.Errorf("R4: the body %d in state %d shares memory with others: %+v", i, state, l)
			}
		}
		c := at(t, state)
		former := call(c)
		later := c.Tick(cameAt(state)+600, 7)
		if len(later) != 1 {
			t.Errorf("P16.1: no second message from state %d on", state)
		}
		spoilAll(later)
		if !sameMessages(former, []dhcp.Message{want}) {
			t.Errorf("R4: two messages from state %d on share memory: %+v", state, former)
		}
	}
}

// TestMessagesSpoiledBeforeTheNext writes over each message before the next one.
func TestMessagesSpoiledBeforeTheNext(t *testing.T) {
	c := lease.New(mac())
	for _, now := range []int64{0, 4, 12} {
		l := c.Tick(now, 5)
		if !sameMessages(l, []dhcp.Message{seeking(5)}) {
			t.Errorf("R4: Tick(%d): %+v", now, l)
		}
		spoilAll(l)
	}
	l, _ := c.Get(offered(5), 20)
	for _, now := range []int64{24, 32, 48} {
		if !sameMessages(l, []dhcp.Message{requesting(5, home(), his())}) {
			t.Errorf("R4: before Tick(%d): %+v", now, l)
		}
		spoilAll(l)
		l = c.Tick(now, 6)
	}
	spoilAll(l)
	checkGet(t, c, granted(5, 1000), 50, true)
	for _, now := range []int64{550, 610, 670, 925, 985} {
		l := c.Tick(now, 5)
		if !sameMessages(l, []dhcp.Message{renewing(5, home())}) {
			t.Errorf("R4: Tick(%d): %+v", now, l)
		}
		spoilAll(l)
	}
	checkBound(t, c, 5, has(1050))
}

// TestNilIsEmpty has no options and no bytes in both ways.
func TestNilIsEmpty(t *testing.T) {
	for state := range 6 {
		for _, none := range [][]opt.Option{nil, {}, make([]opt.Option, 0, 5)} {
			m := reply(ack, xidOf(state))
			m.Opts = none
			checkIgnored(t, state, m)
		}
		for _, none := range [][]byte{nil, {}, make([]byte, 0, 5)} {
			for kind := range byte(9) {
				m := reply(kind, xidOf(state), opt.Option{Code: 54, Body: none}, opt.Option{Code: 51, Body: none}, opt.Option{Code: 3, Body: none})
				if kind != nak || state < 4 {
					checkIgnored(t, state, m)
				}
				m.Opts[1].Body = none
				checkIgnored(t, state, m)
			}
		}
	}
}

// TestClientsShareNothing has clients that are called by turns, and others at the same
// time: each of them does what it would do alone.
func TestClientsShareNothing(t *testing.T) {
	for seed := range 8 {
		t.Run("clients", func(t *testing.T) {
			t.Parallel()
			d := dice(5000 + seed)
			clients := []*both{newBoth(), newBoth(), newBoth()}
			for range 4000 {
				clients[d.roll(len(clients))].step(t, &d)
			}
		})
	}
}
