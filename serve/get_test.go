package serve_test

import (
	"reflect"
	"testing"

	"gatehouse/addr"
	"gatehouse/api"
	"gatehouse/dhcp"
	"gatehouse/opt"
	"gatehouse/pool"
	"gatehouse/serve"
)

func TestDiscover(t *testing.T) {
	s := made(t, config())
	propose(t, s, 1, 100, 0)
	propose(t, s, 2, 100, 0)
	propose(t, s, 9, 9, 0)
	propose(t, s, 8, 102, 0)
	checkAll(t, s, 0)
	take(t, s, 2, 100, 0)
	propose(t, s, 1, 101, 0)
	take(t, s, 3, 101, 1)
	propose(t, s, 2, 100, 99)
	propose(t, s, 3, 101, 99)
	take(t, s, 1, 103, 99)
	checkSilent(t, s, message(discover, 4), 99)
	propose(t, s, 9, 9, 99)
	propose(t, s, 4, 100, 100)
	propose(t, s, 4, 100, 102)
	propose(t, s, 3, 101, 102)
	checkTick(t, s, 102, until(2, 100, 100), until(3, 101, 101))
	checkAll(t, s, 102, until(1, 103, 199))
}

// TestWantedAddresses has all forms of option 50 in a DISCOVER: what is no free
// address of the pool changes nothing, and Client is not one that is wanted.
func TestWantedAddresses(t *testing.T) {
	s := made(t, config())
	take(t, s, 7, 101, 0)
	for _, c := range []struct {
		opts []opt.Option
		is   int
	}{
		{nil, 100},
		{[]opt.Option{want(at(103))}, 103},
		{[]opt.Option{want(at(100))}, 100},
		{[]opt.Option{want(at(101))}, 100},
		{[]opt.Option{want(at(102))}, 100},
		{[]opt.Option{want(at(9))}, 100},
		{[]opt.Option{want(at(1))}, 100},
		{[]opt.Option{want(at(104))}, 100},
		{[]opt.Option{want(api.Addr{})}, 100},
		{[]opt.Option{want(api.Addr{255, 255, 255, 255})}, 100},
		{[]opt.Option{option(50)}, 100},
		{[]opt.Option{option(50, 10, 7, 5)}, 100},
		{[]opt.Option{option(50, 10, 7, 5, 103, 0)}, 100},
		{[]opt.Option{option(50, 10, 7, 5, 103, 10, 7, 5, 103)}, 100},
		{[]opt.Option{option(50, 103, 5, 7, 10)}, 100},
		{[]opt.Option{option(49, 10, 7, 5, 103)}, 100},
		{[]opt.Option{server(at(103))}, 100},
		{[]opt.Option{want(at(103)), want(at(100))}, 103},
		{[]opt.Option{option(50, 1), want(at(103))}, 100},
		{[]opt.Option{want(at(103)), server(at(2))}, 103},
	} {
		m := message(discover, 1, c.opts...)
		checkGet(t, s, m, 1, offered(m, at(c.is)))
		m = message(discover, 8, c.opts...)
		checkGet(t, s, m, 1, offered(m, at(102)))
		m = message(discover, 7, c.opts...)
		checkGet(t, s, m, 1, offered(m, at(101)))
	}
	m := client(message(discover, 1), at(103))
	checkGet(t, s, m, 1, serve.Answer{Message: leased(m, offer, at(100)), Mac: mac(1), To: at(103)})
}

func TestRequest(t *testing.T) {
	s := made(t, config())
	take(t, s, 1, 101, 0)
	refuse(t, s, 2, 101, 99)
	checkAll(t, s, 99, until(1, 101, 100))
	take(t, s, 1, 101, 99)
	checkAll(t, s, 198, until(1, 101, 199))
	take(t, s, 1, 103, 198)
	checkAll(t, s, 198, until(1, 103, 298))
	checkTick(t, s, 198, until(1, 101, 0))
	take(t, s, 2, 101, 198)
	take(t, s, 8, 102, 198)
	take(t, s, 9, 9, 198)
	for n := range 256 {
		if n != 100 {
			refuse(t, s, 3, n, 199)
		}
		if n != 9 {
			refuse(t, s, 9, n, 199)
		}
		if n != 102 {
			refuse(t, s, 8, n, 199)
		}
	}
	checkAll(t, s, 199, until(9, 9, 298), until(2, 101, 298), until(8, 102, 298), until(1, 103, 298))
	take(t, s, 3, 100, 199)
	take(t, s, 4, 101, 298)
	checkAll(t, s, 298, until(3, 100, 299), until(4, 101, 398))
}

// TestServersOfRequests has all forms of option 54: a message to another server gets
// no answer and no lease.
func TestServersOfRequests(t *testing.T) {
	for _, c := range []struct {
		opt    opt.Option
		silent bool
	}{
		{server(at(1)), false},
		{server(at(2)), true},
		{server(at(0)), true},
		{server(at(100)), true},
		{server(api.Addr{}), true},
		{server(api.Addr{255, 255, 255, 255}), true},
		{server(api.Addr{11, 7, 5, 1}), true},
		{option(54), false},
		{option(54, 10, 7, 5), false},
		{option(54, 10, 7, 5, 1, 0), false},
		{option(54, 10, 7, 5, 2, 0), false},
		{option(53, 10, 7, 5, 2), false},
		{option(55, 10, 7, 5, 2), false},
	} {
		s := made(t, config())
		good, bad := message(request, 1, want(at(101)), c.opt), message(request, 1, want(at(99)), c.opt)
		renewing := client(message(request, 2, c.opt), at(103))
		if c.silent {
			checkSilent(t, s, good, 0)
			checkSilent(t, s, bad, 0)
			checkSilent(t, s, renewing, 0)
			checkAll(t, s, 0)
			continue
		}
		checkGet(t, s, good, 0, acked(good, at(101)))
		checkGet(t, s, bad, 0, refused(bad))
		checkGet(t, s, renewing, 0, acked(renewing, at(103)))
		checkAll(t, s, 0, until(1, 101, 100), until(2, 103, 100))
	}
}

// TestAddressesOfRequests has all forms of option 50 beside a Client and without one.
func TestAddressesOfRequests(t *testing.T) {
	none := api.Addr{}
	for _, c := range []struct {
		opts   []opt.Option
		client api.Addr
		is     api.Addr
	}{
		{nil, none, none},
		{nil, at(101), at(101)},
		{[]opt.Option{want(at(103))}, none, at(103)},
		{[]opt.Option{want(at(103))}, at(101), at(103)},
		{[]opt.Option{want(none)}, none, none},
		{[]opt.Option{want(none)}, at(101), none},
		{[]opt.Option{option(50)}, none, none},
		{[]opt.Option{option(50)}, at(101), at(101)},
		{[]opt.Option{option(50, 10, 7, 5)}, none, none},
		{[]opt.Option{option(50, 10, 7, 5)}, at(101), at(101)},
		{[]opt.Option{option(50, 10, 7, 5, 103, 0)}, none, none},
		{[]opt.Option{option(50, 10, 7, 5, 103, 0)}, at(101), at(101)},
		{[]opt.Option{option(51, 10, 7, 5, 103)}, at(101), at(101)},
		{[]opt.Option{want(at(103)), want(at(101))}, none, at(103)},
		{[]opt.Option{option(50, 1), want(at(103))}, at(101), at(101)},
		{[]opt.Option{option(50, 1), want(at(103))}, none, none},
	} {
		s := made(t, config())
		m := client(message(request, 1, c.opts...), c.client)
		if c.is == none {
			checkSilent(t, s, m, 0)
			checkAll(t, s, 0)
			continue
		}
		want := acked(m, c.is)
		if c.client != none {
			want.To = c.client
		}
		checkGet(t, s, m, 0, want)
		checkAll(t, s, 0, pool.Lease{Mac: mac(1), Addr: c.is, Until: 100})
	}
}

// TestRefusedRequests has a NAK for each reason, which goes to all hosts.
func TestRefusedRequests(t *testing.T) {
	s := made(t, config())
	take(t, s, 5, 101, 0)
	take(t, s, 6, 100, 0)
	checkSilent(t, s, message(decline, 6, want(at(100))), 0)
	for _, a := range []api.Addr{at(0), at(1), at(9), at(99), at(100), at(101), at(102), at(104), at(255), {11, 7, 5, 103}, {0, 0, 0, 1}, {255, 255, 255, 255}} {
		for _, flags := range []int{0, 0x7fff, 0x8000, 0xffff} {
			m := flagged(message(request, 1, want(a)), flags)
			checkGet(t, s, m, 1, refused(m))
			m = client(m, at(103))
			checkGet(t, s, m, 1, refused(m))
			m = client(flagged(message(request, 1), flags), a)
			checkGet(t, s, m, 1, refused(m))
		}
	}
	checkAll(t, s, 1, until(5, 101, 100))
}

// TestDecline has a host that finds its address in use: nobody has it for 600
// seconds.
func TestDecline(t *testing.T) {
	s := made(t, config())
	take(t, s, 1, 100, 0)
	take(t, s, 2, 101, 10)
	checkSilent(t, s, message(decline, 1, want(at(100))), 20)
	checkAll(t, s, 20, until(2, 101, 110))
	checkHolds(t, s, at(100), 20, false)
	checkTick(t, s, 20, until(1, 100, 0))
	propose(t, s, 1, 103, 20)
	refuse(t, s, 1, 100, 20)
	refuse(t, s, 3, 100, 619)
	propose(t, s, 1, 103, 619)
	propose(t, s, 1, 100, 620)
	take(t, s, 3, 100, 620)
}

// busy returns a server with the leases of three hosts, and checkBusy checks that
// they are all there are.
func busy(t *testing.T) *serve.Server {
	t.Helper()
	s := made(t, config())
	take(t, s, 1, 100, 0)
	take(t, s, 2, 101, 0)
	take(t, s, 9, 9, 0)
	return s
}

func checkBusy(t *testing.T, s *serve.Server, now int64) {
	t.Helper()
	checkTick(t, s, now)
	checkAll(t, s, now, until(9, 9, 100), until(1, 100, 100), until(2, 101, 100))
}

// TestDeclineOfNothing has messages that bar no address.
func TestDeclineOfNothing(t *testing.T) {
	for _, m := range []dhcp.Message{
		message(decline, 1),
		message(decline, 1, want(at(101))),
		message(decline, 1, want(at(103))),
		message(decline, 1, want(at(99))),
		message(decline, 1, want(at(1))),
		message(decline, 1, want(api.Addr{})),
		message(decline, 1, option(50)),
		message(decline, 1, option(50, 10, 7, 5)),
		message(decline, 1, option(50, 10, 7, 5, 100, 0)),
		message(decline, 1, option(49, 10, 7, 5, 100)),
		message(decline, 1, want(at(101)), want(at(100))),
		client(message(decline, 1), at(100)),
		client(message(decline, 1, want(at(101))), at(100)),
		message(decline, 2, want(at(100))),
		message(decline, 3, want(at(100))),
		message(decline, 3, want(at(103))),
		message(decline, 3, want(api.Addr{})),
		message(decline, 3, option(50)),
		message(decline, 3),
		message(decline, 8, want(at(102))),
		message(decline, 9, want(at(9))),
		message(decline, 8, want(at(100))),
		message(decline, 4, want(at(102))),
	} {
		s := busy(t)
		checkSilent(t, s, m, 5)
		checkBusy(t, s, 5)
		propose(t, s, 4, 103, 5)
		take(t, s, 8, 102, 5)
		take(t, s, 4, 103, 5)
		take(t, s, 5, 100, 100)
		take(t, s, 6, 101, 100)
	}
}

// TestDeclineAfterTheEnd has a lease that is over, and one that is live a second
// longer.
func TestDeclineAfterTheEnd(t *testing.T) {
	s := made(t, config())
	take(t, s, 1, 100, 0)
	take(t, s, 2, 101, 1)
	checkSilent(t, s, message(decline, 1, want(at(100))), 100)
	checkSilent(t, s, message(decline, 2, want(at(101))), 100)
	checkTick(t, s, 100, until(1, 100, 100), until(2, 101, 0))
	take(t, s, 3, 100, 100)
	refuse(t, s, 4, 101, 699)
	take(t, s, 4, 101, 700)
}

// TestDeclineWithOtherOptions asks nothing of the server's address and of Client.
func TestDeclineWithOtherOptions(t *testing.T) {
	for _, m := range []dhcp.Message{
		message(decline, 1, want(at(100)), server(at(2))),
		message(decline, 1, server(at(1)), want(at(100))),
		client(message(decline, 1, want(at(100))), at(101)),
		flagged(message(decline, 1, want(at(100))), 0x8000),
	} {
		s := made(t, config())
		take(t, s, 1, 100, 0)
		checkSilent(t, s, m, 0)
		refuse(t, s, 1, 100, 599)
		take(t, s, 1, 100, 600)
	}
}

func TestRelease(t *testing.T) {
	s := made(t, config())
	take(t, s, 1, 100, 0)
	take(t, s, 2, 101, 0)
	take(t, s, 9, 9, 0)
	checkSilent(t, s, client(message(release, 1), at(100)), 1)
	checkAll(t, s, 1, until(9, 9, 100), until(2, 101, 100))
	checkTick(t, s, 1, until(1, 100, 0))
	take(t, s, 3, 100, 1)
	checkSilent(t, s, client(message(release, 9), at(9)), 1)
	checkTick(t, s, 1, until(9, 9, 0))
	checkHolds(t, s, at(9), 1, true)
	checkSilent(t, s, client(message(release, 2, want(at(103)), server(at(2))), at(101)), 1)
	checkTick(t, s, 1, until(2, 101, 0))
	checkAll(t, s, 1, until(3, 100, 101))
}

// TestReleaseOfNothing has messages that end no lease.
func TestReleaseOfNothing(t *testing.T) {
	for _, m := range []dhcp.Message{
		message(release, 1),
		message(release, 1, want(at(100))),
		client(message(release, 1), at(101)),
		client(message(release, 1, want(at(100))), at(101)),
		client(message(release, 1), at(103)),
		client(message(release, 1), at(1)),
		client(message(release, 2), at(100)),
		client(message(release, 3), at(100)),
		client(message(release, 3), at(103)),
		client(message(release, 8), at(102)),
		client(message(release, 8), at(9)),
		client(message(release, 3), api.Addr{10, 7, 6, 100}),
	} {
		s := busy(t)
		checkSilent(t, s, m, 5)
		checkBusy(t, s, 5)
	}
}

// TestReleaseAfterTheEnd has a lease that is over before it is ended.
func TestReleaseAfterTheEnd(t *testing.T) {
	s := made(t, config())
	take(t, s, 1, 100, 0)
	checkAll(t, s, 150)
	checkSilent(t, s, client(message(release, 1), at(100)), 150)
	checkTick(t, s, 150, until(1, 100, 0))
}

// TestInform has hosts with and without an address, which need not be one that the
// server knows.
func TestInform(t *testing.T) {
	s := made(t, config())
	take(t, s, 1, 100, 0)
	for _, a := range []api.Addr{at(100), at(101), at(1), at(9), at(77), {0, 0, 0, 1}, {1, 0, 0, 0}, {8, 8, 8, 8}, {255, 255, 255, 255}} {
		for _, flags := range []int{0, 0x8000} {
			for m := 1; m < 10; m++ {
				msg := client(flagged(message(inform, m, want(at(103)), server(at(2))), flags), a)
				checkGet(t, s, msg, 1, told(msg))
				checkSilent(t, s, client(msg, api.Addr{}), 1)
			}
		}
	}
	checkAll(t, s, 1, until(1, 100, 100))
	checkTick(t, s, 1)
}

// valued returns messages that would do something if they were of a permitted type
// and Op: one of a new host, and those of the MAC addresses 1 and 9 about their leases.
func valued(kind int) []dhcp.Message {
	return []dhcp.Message{
		client(message(kind, 3, want(at(103))), at(103)),
		client(message(kind, 1, want(at(100))), at(100)),
		client(message(kind, 9, want(at(9)), server(at(1))), at(9)),
	}
}

// TestOtherOps has all types with other Ops: nothing happens.
func TestOtherOps(t *testing.T) {
	s := busy(t)
	for _, op := range []int{0, 2, 3, 255, 256, 257, -1, -255, 1 << 32, 1<<32 + 1, 1 << 62} {
		for kind := range 256 {
			for _, m := range valued(kind) {
				m.Op = op
				checkSilent(t, s, m, 1)
			}
		}
	}
	checkBusy(t, s, 1)
	propose(t, s, 3, 103, 1)
}

// TestOtherTypes has the types of servers and those that there are not.
func TestOtherTypes(t *testing.T) {
	s := busy(t)
	for kind := range 256 {
		if kind == offer || kind == ack || kind == nak || kind == 0 || kind > inform {
			for _, m := range valued(kind) {
				checkSilent(t, s, m, 1)
			}
		}
	}
	for kind := range 9 {
		for _, body := range [][]byte{nil, {byte(kind), 0}, {0, byte(kind)}, {byte(kind), byte(kind)}, {0, 0, 0, byte(kind)}} {
			for _, m := range valued(kind) {
				m.Opts[1] = opt.Option{Code: 53, Body: body}
				checkSilent(t, s, m, 1)
				m.Opts = append(m.Opts, option(53, byte(kind)))
				checkSilent(t, s, m, 1)
				m.Opts[1].Code = 52
				m.Opts = m.Opts[:len(m.Opts)-1]
				checkSilent(t, s, m, 1)
				m.Opts = nil
				checkSilent(t, s, m, 1)
			}
		}
	}
	checkBusy(t, s, 1)
	propose(t, s, 3, 103, 1)
}

// TestReceivers has each type of answer with and without a Client, with each bit of
// Flags and with numbers that the field does not hold.
func TestReceivers(t *testing.T) {
	flags := []int{0, 0x7fff, 0xffff, 0x8001, -1, -0x8000, -0x8001, 0x18000, 0x17fff, 1<<32 + 0x8000, 1 << 63 >> 1}
	for bit := range 63 {
		flags = append(flags, 1<<bit)
	}
	for _, f := range flags {
		s := made(t, config())
		bit := f&0x8000 != 0
		check := func(m dhcp.Message, out dhcp.Message, your api.Addr) {
			t.Helper()
			all, own := toAll(out), serve.Answer{Message: out, Mac: m.Mac, To: your}
			if bit {
				own = all
			}
			if m.Client != (api.Addr{}) {
				own = serve.Answer{Message: out, Mac: m.Mac, To: m.Client}
			}
			checkGet(t, s, m, 0, own)
		}
		m := flagged(message(discover, 1), f)
		check(m, leased(m, offer, at(100)), at(100))
		m = flagged(message(request, 1, want(at(101))), f)
		check(m, leased(m, ack, at(101)), at(101))
		m = flagged(message(request, 1, want(at(99))), f)
		checkGet(t, s, m, 0, refused(m))
		for _, a := range []api.Addr{at(101), at(7), {0, 0, 0, 1}, {1, 0, 0, 0}} {
			m = client(flagged(message(discover, 1), f), a)
			check(m, leased(m, offer, at(101)), at(101))
			m = client(flagged(message(request, 1, want(at(101))), f), a)
			check(m, leased(m, ack, at(101)), at(101))
			m = client(flagged(message(inform, 1), f), a)
			checkGet(t, s, m, 0, told(m))
			m = client(flagged(message(request, 1, want(at(99))), f), a)
			checkGet(t, s, m, 0, refused(m))
		}
	}
}

// TestAnswersHaveTheFieldsOfTheirMessages changes each of them.
func TestAnswersHaveTheFieldsOfTheirMessages(t *testing.T) {
	for i := range 32 {
		s := made(t, config())
		for _, kind := range []int{discover, request, inform} {
			m := client(message(kind, 1, want(at(100))), at(100))
			m.Xid, m.Relay = 1<<i, addr.Of(1<<i)
			m.Mac[i%6] ^= 1 << (i % 8)
			m.Hops, m.Secs = i, 1<<i
			m.Your, m.Server = addr.Of(1<<i), addr.Of(1<<i)
			if kind == inform {
				checkGet(t, s, m, 0, told(m))
				continue
			}
			reply := byte(kind + 1)
			if kind == request {
				reply = ack
			}
			checkGet(t, s, m, 0, serve.Answer{Message: leased(m, reply, at(100)), Mac: m.Mac, To: at(100)})
		}
		m := message(request, 2, want(at(99)))
		m.Xid, m.Relay, m.Mac[i%6] = 1<<i, addr.Of(1<<i), byte(i)
		checkGet(t, s, m, 0, refused(m))
	}
}

// TestAnswersCanBeSent asks dhcp for the bytes of each type of answer.
func TestAnswersCanBeSent(t *testing.T) {
	s := made(t, config())
	for _, m := range []dhcp.Message{
		message(discover, 1), message(request, 1, want(at(100))), message(request, 1, want(at(99))), client(message(inform, 1), at(5)),
	} {
		a, _ := s.Get(m, 0)
		b, e := dhcp.Put(a.Message)
		if back, _ := dhcp.Get(b); e != api.OK || !reflect.DeepEqual(back, a.Message) {
			t.Errorf("P15.1: Put of the answer %+v: %d, and back %+v", a, e, back)
		}
	}
}
