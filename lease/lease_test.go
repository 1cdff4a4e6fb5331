package lease_test

import (
	"encoding/binary"
	"math"
	"reflect"
	"testing"

	"gatehouse/api"
	"gatehouse/dhcp"
	"gatehouse/lease"
	"gatehouse/opt"
)

// The types of messages.
const (
	discover = 1
	offer    = 2
	request  = 3
	decline  = 4
	ack      = 5
	nak      = 6
	release  = 7
	inform   = 8
)

// The times and the Xids of a client that at brings to a state: it seeks at 100, is
// offered an address at 101, and is bound at 102 for 800 seconds.
const (
	seekAt    = 100
	offerAt   = 101
	boundAt   = 102
	leaseSecs = 800
	t1At      = 502
	t2At      = 802
	endAt     = 902
	firstXid  = 0x87654321
	nextXid   = 0xfedcba98
)

func mac() api.Mac { return api.Mac{2, 3, 5, 7, 11, 13} }

// home is the address that the servers offer, other is another one. His is the
// address of the server, and hers that of another server.
func home() api.Addr   { return api.Addr{198, 51, 100, 7} }
func other() api.Addr  { return api.Addr{198, 51, 100, 8} }
func his() api.Addr    { return api.Addr{203, 0, 113, 1} }
func hers() api.Addr   { return api.Addr{203, 0, 113, 2} }
func mask() api.Addr   { return api.Addr{255, 255, 254, 0} }
func router() api.Addr { return api.Addr{198, 51, 100, 254} }

func option(code int, body ...byte) opt.Option { return opt.Option{Code: code, Body: body} }

// server, lasts, masks and routes are the options that the client reads.
func server(a api.Addr) opt.Option { return option(54, a[:]...) }
func lasts(secs uint32) opt.Option {
	return option(51, binary.BigEndian.AppendUint32(nil, secs)...)
}
func masks(a api.Addr) opt.Option  { return option(1, a[:]...) }
func routes(a api.Addr) opt.Option { return option(3, a[:]...) }

// reply returns a message of a server for home, in which also those fields are not
// zero that mean nothing to the client.
func reply(kind byte, xid uint32, opts ...opt.Option) dhcp.Message {
	return dhcp.Message{
		Op: 2, Hops: 3, Xid: xid, Secs: 77, Flags: 0x1234,
		Client: api.Addr{9, 8, 7, 6}, Your: home(), Server: api.Addr{9, 8, 7, 5}, Relay: api.Addr{9, 8, 7, 4},
		Mac:  mac(),
		Opts: append([]opt.Option{option(12, 'h', 'o'), option(53, kind)}, opts...),
	}
}

func offered(xid uint32) dhcp.Message { return reply(offer, xid, server(his())) }

func granted(xid, secs uint32) dhcp.Message {
	return reply(ack, xid, server(his()), lasts(secs), masks(mask()), routes(router()))
}

func refused(xid uint32) dhcp.Message { return reply(nak, xid, server(his())) }

func yours(m dhcp.Message, a api.Addr) dhcp.Message {
	m.Your = a
	return m
}

// seeking, requesting and renewing are whole messages of the client.
func seeking(xid uint32) dhcp.Message {
	return dhcp.Message{Op: 1, Xid: xid, Flags: 32768, Mac: mac(), Opts: []opt.Option{option(53, 1), option(55, 1, 3, 6)}}
}

func requesting(xid uint32, a, s api.Addr) dhcp.Message {
	return dhcp.Message{Op: 1, Xid: xid, Flags: 32768, Mac: mac(), Opts: []opt.Option{option(53, 3), option(50, a[:]...), option(54, s[:]...), option(55, 1, 3, 6)}}
}

func renewing(xid uint32, a api.Addr) dhcp.Message {
	return dhcp.Message{Op: 1, Xid: xid, Client: a, Mac: mac(), Opts: []opt.Option{option(53, 3)}}
}

// has is what a client has that is bound until a time as granted tells.
func has(until int64) lease.Bound {
	return lease.Bound{Addr: home(), Mask: mask(), Router: router(), Server: his(), Until: until}
}

func sameMessages(a, b []dhcp.Message) bool {
	return len(a) == len(b) && (len(a) == 0 || reflect.DeepEqual(a, b))
}

func checkTick(t *testing.T, c *lease.Client, now int64, draw uint32, want ...dhcp.Message) {
	t.Helper()
	if l := c.Tick(now, draw); !sameMessages(l, want) {
		t.Errorf("P16.1: Tick(%d, %#x): %+v instead of %+v", now, draw, l, want)
	}
}

func checkGet(t *testing.T, c *lease.Client, m dhcp.Message, now int64, changed bool, want ...dhcp.Message) {
	t.Helper()
	if l, is := c.Get(m, now); is != changed || !sameMessages(l, want) {
		t.Errorf("P16.2: Get(%+v, %d): %+v, %v instead of %+v, %v", m, now, l, is, want, changed)
	}
}

// checkFree has a client without an address.
func checkFree(t *testing.T, c *lease.Client, state int) {
	t.Helper()
	if b, ok := c.Bound(); ok || b != (lease.Bound{}) {
		t.Errorf("P16.1, R2: Bound: %+v, %v in state %d", b, ok, state)
	}
	if s := c.State(); s != state {
		t.Errorf("P16.1: State: %d instead of %d", s, state)
	}
}

// checkBound has a client with an address.
func checkBound(t *testing.T, c *lease.Client, state int, want lease.Bound) {
	t.Helper()
	if b, ok := c.Bound(); !ok || b != want {
		t.Errorf("P16.1: Bound: %+v, %v instead of %+v in state %d", b, ok, want, state)
	}
	if s := c.State(); s != state {
		t.Errorf("P16.1: State: %d instead of %d", s, state)
	}
}

// at returns a client that has just come to a state.
func at(t *testing.T, state int) *lease.Client {
	t.Helper()
	c := lease.New(mac())
	if state >= 1 {
		checkTick(t, c, seekAt, firstXid, seeking(firstXid))
	}
	if state >= 2 {
		checkGet(t, c, offered(firstXid), offerAt, false, requesting(firstXid, home(), his()))
	}
	if state >= 3 {
		checkGet(t, c, granted(firstXid, leaseSecs), boundAt, true)
	}
	if state >= 4 {
		checkTick(t, c, t1At, nextXid, renewing(nextXid, home()))
	}
	if state >= 5 {
		checkTick(t, c, t2At, 77, renewing(nextXid, home()))
	}
	checkAt(t, c, state)
	return c
}

// checkAt has a client as at returns it.
func checkAt(t *testing.T, c *lease.Client, state int) {
	t.Helper()
	if state < 3 {
		checkFree(t, c, state)
	} else {
		checkBound(t, c, state, has(endAt))
	}
}

// cameAt returns the time at which a client came to a state, and xidOf its Xid then.
func cameAt(state int) int64 { return []int64{0, seekAt, offerAt, boundAt, t1At, t2At}[state] }

func xidOf(state int) uint32 {
	return []uint32{0, firstXid, firstXid, firstXid, nextXid, nextXid}[state]
}

func TestNew(t *testing.T) {
	for i := range 48 {
		m := mac()
		m[i/8] ^= 1 << (i % 8)
		c := lease.New(m)
		checkFree(t, c, 0)
		want := seeking(5)
		want.Mac = m
		checkTick(t, c, 1, 5, want)
		checkFree(t, c, 1)
		checkGet(t, c, offered(5), 1, false)
		mine := offered(5)
		mine.Mac = m
		want = requesting(5, home(), his())
		want.Mac = m
		checkGet(t, c, mine, 1, false, want)
	}
	c := lease.New(api.Mac{})
	want := seeking(5)
	want.Mac = api.Mac{}
	checkTick(t, c, 1, 5, want)
}

func TestStates(t *testing.T) {
	for state := range 6 {
		at(t, state)
	}
}

// TestDraws has each bit of the draw, in each state: it counts where an exchange
// begins, and nowhere else.
func TestDraws(t *testing.T) {
	draws := []uint32{0, 1, 255, 256, 65535, 65536, math.MaxUint32, math.MaxInt32}
	for bit := range 32 {
		draws = append(draws, 1<<bit)
	}
	for _, d := range draws {
		checkTick(t, at(t, 0), 0, d, seeking(d))
		checkTick(t, at(t, 1), seekAt+4, d, seeking(firstXid))
		checkTick(t, at(t, 2), offerAt+4, d, requesting(firstXid, home(), his()))
		checkTick(t, at(t, 3), t1At, d, renewing(d, home()))
		checkTick(t, at(t, 4), t1At+60, d, renewing(nextXid, home()))
		checkTick(t, at(t, 4), t2At, d, renewing(nextXid, home()))
		checkTick(t, at(t, 5), t2At+60, d, renewing(nextXid, home()))
		for state := 3; state <= 5; state++ {
			checkTick(t, at(t, state), endAt, d, seeking(d))
		}
		c := at(t, 3)
		checkTick(t, c, t1At-1, d)
		checkGet(t, c, refused(d), t1At-1, false)
		checkTick(t, c, t1At, 7, renewing(7, home()))
	}
}

// TestFirstTimes has new clients, which seek at any time at once.
func TestFirstTimes(t *testing.T) {
	for _, now := range []int64{0, 1, 2, 1000, api.MaxTime, api.MaxTime + 1, -1, math.MinInt64, math.MaxInt64} {
		c := lease.New(mac())
		checkTick(t, c, now, 6, seeking(6))
		checkFree(t, c, 1)
		checkTick(t, c, now, 7)
		checkFree(t, c, 1)
	}
}

// TestSeekAgain has a Tick each second.
func TestSeekAgain(t *testing.T) {
	c := at(t, 1)
	due := []int64{104, 112, 128, 160, 224, 288, 352, 416, 480}
	for now := int64(seekAt); now < 500; now++ {
		if len(due) > 0 && due[0] == now {
			due = due[1:]
			checkTick(t, c, now, 5, seeking(firstXid))
			checkTick(t, c, now, 5)
		} else {
			checkTick(t, c, now, 5)
		}
		checkFree(t, c, 1)
	}
}

// TestSeekAgainLate has Ticks that are too late: the waits begin at the message that
// was sent.
func TestSeekAgainLate(t *testing.T) {
	c := at(t, 1)
	checkTick(t, c, 111, 5, seeking(firstXid))
	checkTick(t, c, 118, 5)
	checkTick(t, c, 1000, 5, seeking(firstXid))
	checkTick(t, c, 1015, 5)
	checkTick(t, c, 1016, 5, seeking(firstXid))
	checkTick(t, c, 1047, 5)
	checkTick(t, c, 1049, 5, seeking(firstXid))
	for now := int64(1049); 2*now < api.MaxTime; now *= 2 {
		checkTick(t, c, now+63, 5)
		checkTick(t, c, now+64, 5, seeking(firstXid))
		checkTick(t, c, now+127, 5)
		checkTick(t, c, 2*now, 5, seeking(firstXid))
	}
}

// TestRequestAgain has a Tick each second until the offered address is given up, and
// then from the beginning.
func TestRequestAgain(t *testing.T) {
	c := at(t, 2)
	for round := range 3 {
		base := int64(offerAt + 100*round)
		xid := uint32(firstXid + round)
		for now := base; now < base+60; now++ {
			if d := now - base; d == 4 || d == 12 || d == 28 {
				checkTick(t, c, now, 5, requesting(xid, home(), his()))
			} else {
				checkTick(t, c, now, 5)
			}
			checkFree(t, c, 2)
		}
		checkTick(t, c, base+60, 5)
		checkFree(t, c, 0)
		checkTick(t, c, base+61, xid+1, seeking(xid+1))
		checkTick(t, c, base+64, 5)
		checkTick(t, c, base+65, 5, seeking(xid+1))
		checkTick(t, c, base+72, 5)
		checkFree(t, c, 1)
		checkGet(t, c, offered(xid+1), base+100, false, requesting(xid+1, home(), his()))
	}
}

// TestRequestAgainLate has Ticks that are too late, and several at one time.
func TestRequestAgainLate(t *testing.T) {
	c := at(t, 2)
	checkTick(t, c, 1000, 5, requesting(firstXid, home(), his()))
	checkTick(t, c, 1007, 5)
	checkTick(t, c, 1010, 5, requesting(firstXid, home(), his()))
	checkTick(t, c, 1025, 5)
	checkTick(t, c, 1500, 5, requesting(firstXid, home(), his()))
	checkTick(t, c, 1531, 5)
	checkFree(t, c, 2)
	checkTick(t, c, 1533, 5)
	checkFree(t, c, 0)
	checkTick(t, c, 1533, 6, seeking(6))
	checkTick(t, c, 1533, 7)
	checkFree(t, c, 1)
}

// TestOfferAfterLongWaits has an OFFER when the wait is the longest: that of the
// REQUEST is the shortest.
func TestOfferAfterLongWaits(t *testing.T) {
	for last := int64(100); last < 600; last += 7 {
		c := at(t, 1)
		for now := int64(seekAt); now <= last; now++ {
			c.Tick(now, 5)
		}
		checkGet(t, c, offered(firstXid), last, false, requesting(firstXid, home(), his()))
		checkTick(t, c, last+3, 5)
		checkTick(t, c, last+4, 5, requesting(firstXid, home(), his()))
		checkTick(t, c, last+11, 5)
		checkTick(t, c, last+12, 5, requesting(firstXid, home(), his()))
	}
}

// lengths are numbers of seconds, with the halves and the seven eighths that are
// rounded down.
var lengths = []struct{ secs, half, most int64 }{
	{60, 30, 52}, {61, 30, 53}, {62, 31, 54}, {63, 31, 55}, {64, 32, 56}, {65, 32, 56}, {66, 33, 57}, {67, 33, 58},
	{68, 34, 59}, {69, 34, 60}, {70, 35, 61}, {71, 35, 62}, {72, 36, 63}, {100, 50, 87}, {600, 300, 525}, {3599, 1799, 3149},
	{3600, 1800, 3150}, {86400, 43200, 75600}, {1 << 24, 1 << 23, 14680064}, {613566757, 306783378, 536870912},
	{999999999, 499999999, 874999999}, {1000000000, 500000000, 875000000}, {1000000001, 500000000, 875000000},
	{1 << 31, 500000000, 875000000}, {1<<31 - 1, 500000000, 875000000}, {1<<32 - 1, 500000000, 875000000},
}

func TestLengths(t *testing.T) {
	for _, l := range lengths {
		c := at(t, 2)
		got := int64(1000 + l.secs%3)
		end := got + min(l.secs, 1000000000)
		checkGet(t, c, granted(firstXid, uint32(l.secs)), got, true)
		checkBound(t, c, 3, has(end))
		checkTick(t, c, got, 5)
		checkTick(t, c, got+l.half-1, 5)
		checkBound(t, c, 3, has(end))
		checkTick(t, c, got+l.half, 6, renewing(6, home()))
		checkBound(t, c, 4, has(end))
		c.Tick(got+l.most-1, 7)
		checkBound(t, c, 4, has(end))
		checkTick(t, c, got+l.most, 8, renewing(6, home()))
		checkBound(t, c, 5, has(end))
		c.Tick(end-1, 9)
		checkBound(t, c, 5, has(end))
		checkTick(t, c, end, 10, seeking(10))
		checkFree(t, c, 1)
	}
}

// TestLengthsBeginAgain has a lease that is renewed: its times begin where it is.
func TestLengthsBeginAgain(t *testing.T) {
	for _, state := range []int{4, 5} {
		for _, l := range lengths {
			c := at(t, state)
			got := int64(850)
			end := got + min(l.secs, 1000000000)
			checkGet(t, c, granted(nextXid, uint32(l.secs)), got, false)
			checkBound(t, c, 3, has(end))
			checkTick(t, c, got+l.half-1, 5)
			checkTick(t, c, got+l.half, 6, renewing(6, home()))
			c.Tick(got+l.most-1, 7)
			checkBound(t, c, 4, has(end))
			checkTick(t, c, got+l.most, 8, renewing(6, home()))
			c.Tick(end-1, 9)
			checkBound(t, c, 5, has(end))
			checkTick(t, c, end, 10, seeking(10))
			checkFree(t, c, 1)
		}
	}
}

// TestBoundIsQuiet has a Tick each second until T1.
func TestBoundIsQuiet(t *testing.T) {
	c := at(t, 3)
	for now := int64(boundAt); now < t1At; now++ {
		checkTick(t, c, now, uint32(now))
		checkBound(t, c, 3, has(endAt))
	}
}

// TestRenewAgain has a Tick each second from T1 to the end of a lease, with T2 when
// a message would be due, shortly before, and shortly after.
func TestRenewAgain(t *testing.T) {
	for secs := int64(480); secs <= 1100; secs += 5 {
		c := at(t, 2)
		checkGet(t, c, granted(firstXid, uint32(secs)), 200, true)
		t1, t2, end := 200+secs/2, 200+secs*7/8, 200+secs
		checkTick(t, c, t1, 9, renewing(9, home()))
		for now := t1; now < end; now++ {
			state, last := 4, t1
			if now >= t2 {
				state, last = 5, t2
			}
			if d := now - last; now == t2 || d > 0 && d%60 == 0 {
				checkTick(t, c, now, 5, renewing(9, home()))
			}
			checkTick(t, c, now, 5)
			checkBound(t, c, state, has(end))
		}
		checkTick(t, c, end, 5, seeking(5))
	}
}

// TestRenewAgainLate has Ticks that are too late: the 60 seconds begin at the message
// that was sent.
func TestRenewAgainLate(t *testing.T) {
	c := at(t, 2)
	checkGet(t, c, granted(firstXid, 8000), 1000, true)
	checkTick(t, c, 5050, 9, renewing(9, home()))
	checkTick(t, c, 5109, 5)
	checkTick(t, c, 5115, 5, renewing(9, home()))
	checkTick(t, c, 5174, 5)
	checkTick(t, c, 5175, 5, renewing(9, home()))
	checkTick(t, c, 7999, 5, renewing(9, home()))
	checkBound(t, c, 4, has(9000))
	checkTick(t, c, 8010, 5, renewing(9, home()))
	checkBound(t, c, 5, has(9000))
	checkTick(t, c, 8069, 5)
	checkTick(t, c, 8075, 5, renewing(9, home()))
	checkTick(t, c, 8134, 5)
	checkTick(t, c, 8135, 5, renewing(9, home()))
	checkTick(t, c, 8999, 5, renewing(9, home()))
	checkBound(t, c, 5, has(9000))
}

// TestLeaps has Ticks at which several times have gone by: each makes one step, and
// the end of the lease comes first.
func TestLeaps(t *testing.T) {
	for _, now := range []int64{t2At, t2At + 1, endAt - 1} {
		c := at(t, 3)
		checkTick(t, c, now, 5, renewing(5, home()))
		checkBound(t, c, 4, has(endAt))
		checkTick(t, c, now, 6, renewing(5, home()))
		checkBound(t, c, 5, has(endAt))
		checkTick(t, c, now, 7)
		checkBound(t, c, 5, has(endAt))
	}
	for state := 3; state <= 5; state++ {
		for _, now := range []int64{endAt, endAt + 1, 5000, api.MaxTime} {
			c := at(t, state)
			checkTick(t, c, now, 5, seeking(5))
			checkFree(t, c, 1)
			checkTick(t, c, now+3, 6)
			checkTick(t, c, now, 6)
		}
	}
}

// TestEnd has leases that end: the client has its address until a Tick says so, and
// then it seeks as a new one does.
func TestEnd(t *testing.T) {
	for state := 3; state <= 5; state++ {
		c := at(t, state)
		checkGet(t, c, reply(decline, xidOf(state)), endAt+10, false)
		checkBound(t, c, state, has(endAt))
		checkTick(t, c, endAt-1, 5, seeking(5))
		checkFree(t, c, 1)
		for _, d := range []int64{4, 12, 28, 60, 124, 188} {
			checkTick(t, c, endAt+10+d-1, 6)
			checkTick(t, c, endAt+10+d, 6, seeking(5))
		}
	}
}

// TestMessagesCanBeSent asks dhcp for the bytes of each message.
func TestMessagesCanBeSent(t *testing.T) {
	for state := 1; state <= 5; state++ {
		if state == 3 {
			continue
		}
		l := at(t, state).Tick(cameAt(state)+60, 5)
		if len(l) != 1 {
			t.Fatalf("P16.1: %d messages in state %d", len(l), state)
		}
		b, e := dhcp.Put(l[0])
		if back, _ := dhcp.Get(b); e != api.OK || !reflect.DeepEqual(back, l[0]) {
			t.Errorf("P16.1: Put of the message %+v: %d, and back %+v", l[0], e, back)
		}
	}
}
