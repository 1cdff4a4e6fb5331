package lease_test

import (
	"slices"
	"testing"

	"gatehouse/addr"
	"gatehouse/api"
	"gatehouse/dhcp"
	"gatehouse/lease"
	"gatehouse/opt"
)

// checkSameFuture has a client that differs in nothing from one that at returns: it
// does the same at each of the next seconds.
func checkSameFuture(t *testing.T, c *lease.Client, state int, after any) {
	t.Helper()
	checkAt(t, c, state)
	twin := at(t, state)
	for now := cameAt(state); now < cameAt(state)+420; now++ {
		got, want := c.Tick(now, uint32(now)), twin.Tick(now, uint32(now))
		b, ok := c.Bound()
		twinB, twinOk := twin.Bound()
		if !sameMessages(got, want) || b != twinB || ok != twinOk || c.State() != twin.State() {
			t.Fatalf("P16.2: Tick(%d) in state %d after %+v: %+v instead of %+v, then %+v in state %d", now, state, after, got, want, b, c.State())
		}
	}
}

// checkIgnored has a message that does nothing in a state.
func checkIgnored(t *testing.T, state int, m dhcp.Message) {
	t.Helper()
	c := at(t, state)
	checkGet(t, c, m, cameAt(state), false)
	checkSameFuture(t, c, state, m)
}

// effective returns the messages that do something in a state.
func effective(state int) []dhcp.Message {
	switch xid := xidOf(state); state {
	case 1:
		return []dhcp.Message{offered(xid)}
	case 2, 4, 5:
		return []dhcp.Message{granted(xid, 700), refused(xid)}
	}
	return nil
}

// allKinds returns a message of each type, whose options would be right for all.
func allKinds(xid uint32) []dhcp.Message {
	var l []dhcp.Message
	for kind := range 256 {
		l = append(l, reply(byte(kind), xid, server(his()), lasts(700), masks(mask()), routes(router())))
	}
	return l
}

// TestNothingToGet has the states in which no message does anything.
func TestNothingToGet(t *testing.T) {
	lost := at(t, 4)
	lost.Lose()
	for _, xid := range []uint32{0, firstXid, nextXid} {
		for _, m := range allKinds(xid) {
			c := at(t, 0)
			checkGet(t, c, m, 0, false)
			checkFree(t, c, 0)
			checkGet(t, lost, m, t1At, false)
			checkFree(t, lost, 0)
		}
	}
	for _, m := range allKinds(firstXid) {
		c := at(t, 3)
		checkGet(t, c, m, boundAt, false)
		checkBound(t, c, 3, has(endAt))
	}
	for _, kind := range []byte{offer, ack, nak} {
		checkIgnored(t, 3, reply(kind, firstXid, server(his()), lasts(700)))
	}
	checkTick(t, lost, t1At, 6, seeking(6))
}

// TestOtherTypes has all types in each state.
func TestOtherTypes(t *testing.T) {
	for _, state := range []int{1, 2, 4, 5} {
		for _, m := range allKinds(xidOf(state)) {
			kind := dhcp.Type(m)
			if state == 1 && kind == offer || state != 1 && (kind == ack || kind == nak) {
				continue
			}
			if kind == 0 && m.Opts[1].Body[0] > 20 {
				c := at(t, state)
				checkGet(t, c, m, cameAt(state), false)
				checkAt(t, c, state)
				continue
			}
			checkIgnored(t, state, m)
		}
	}
}

// TestFormsOfTypes has a type in other forms, which are none, and after the first
// option 53.
func TestFormsOfTypes(t *testing.T) {
	for _, state := range []int{1, 2, 4, 5} {
		for _, m := range effective(state) {
			kind := m.Opts[1].Body[0]
			for _, body := range [][]byte{nil, {kind, 0}, {0, kind}, {kind, kind}, {0, 0, 0, kind}, {release}} {
				wrong := m
				wrong.Opts = slices.Clone(m.Opts)
				wrong.Opts[1].Body = body
				checkIgnored(t, state, wrong)
				wrong.Opts = append(wrong.Opts, option(53, kind))
				checkIgnored(t, state, wrong)
			}
			m.Opts = slices.Concat(m.Opts, []opt.Option{option(53, release)})
			c := at(t, state)
			c.Get(m, cameAt(state))
			if c.State() == state {
				t.Errorf("P16.2: Get(%+v) does nothing", m)
			}
			m.Opts = slices.Delete(m.Opts, 1, 2)
			checkIgnored(t, state, m)
			m.Opts = nil
			checkIgnored(t, state, m)
		}
	}
}

// TestOtherReceivers has messages with other Ops, Macs and Xids.
func TestOtherReceivers(t *testing.T) {
	for _, state := range []int{1, 2, 4, 5} {
		for _, m := range effective(state) {
			for _, op := range []int{0, 1, 3, 255, 258, -1, -2, -254, 1<<32 + 2, 1 << 62, 1<<63>>1 + 2} {
				wrong := m
				wrong.Op = op
				checkIgnored(t, state, wrong)
			}
			for bit := range 48 {
				wrong := m
				wrong.Mac[bit/8] ^= 1 << (bit % 8)
				checkIgnored(t, state, wrong)
			}
			for bit := range 32 {
				wrong := m
				wrong.Xid ^= 1 << bit
				checkIgnored(t, state, wrong)
			}
		}
	}
	for _, state := range []int{4, 5} {
		for _, m := range []dhcp.Message{granted(firstXid, 700), refused(firstXid), granted(77, 700), refused(77)} {
			checkIgnored(t, state, m)
		}
	}
}

// TestOffers has addresses and servers of all bits, those of zeros among the servers.
func TestOffers(t *testing.T) {
	servers := []api.Addr{{}, his(), home(), {255, 255, 255, 255}}
	addrs := []api.Addr{home(), his(), {127, 0, 0, 1}, {255, 255, 255, 255}}
	for bit := range 32 {
		servers = append(servers, addr.Of(1<<bit))
		addrs = append(addrs, addr.Of(1<<bit))
	}
	for _, s := range servers {
		for _, a := range addrs {
			for _, m := range []dhcp.Message{
				yours(reply(offer, firstXid, server(s)), a),
				yours(reply(offer, firstXid, lasts(1), routes(router()), server(s), server(hers())), a),
			} {
				c := at(t, 1)
				checkGet(t, c, m, 200, false, requesting(firstXid, a, s))
				checkFree(t, c, 2)
				checkTick(t, c, 203, 5)
				checkTick(t, c, 204, 5, requesting(firstXid, a, s))
			}
		}
	}
}

// noServers are forms of option 54 that are no address.
func noServers() []opt.Option {
	return []opt.Option{option(53, 5), option(54), option(54, 203, 0, 113), option(54, 203, 0, 113, 1, 0), option(54, 203, 0, 113, 1, 203, 0, 113, 1), option(52, 203, 0, 113, 1), option(54+256, 203, 0, 113, 1)}
}

func TestWrongOffers(t *testing.T) {
	checkIgnored(t, 1, yours(offered(firstXid), api.Addr{}))
	for _, o := range noServers() {
		checkIgnored(t, 1, reply(offer, firstXid, o))
		if o.Code == 54 {
			checkIgnored(t, 1, reply(offer, firstXid, o, server(his())))
		}
	}
	for _, state := range []int{2, 4, 5} {
		checkIgnored(t, state, offered(xidOf(state)))
		checkIgnored(t, state, yours(reply(offer, xidOf(state), server(hers())), other()))
	}
}

// TestGrants has all that an ACK may tell, in the states that take one.
func TestGrants(t *testing.T) {
	for _, state := range []int{2, 4, 5} {
		for _, a := range []api.Addr{home(), other(), his(), {0, 0, 0, 1}, {1, 0, 0, 0}, {198, 51, 100, 135}, {70, 51, 100, 7}, {255, 255, 255, 255}} {
			c := at(t, state)
			now := cameAt(state) + 20
			want := has(now + 700)
			want.Addr = a
			checkGet(t, c, yours(granted(xidOf(state), 700), a), now, state == 2 || a != home())
			checkBound(t, c, 3, want)
			checkTick(t, c, now+349, 5)
			checkTick(t, c, now+350, 5, renewing(5, a))
			checkGet(t, c, yours(granted(5, 700), a), now+350, false)
		}
	}
}

// TestSeconds has option 51 at its edges and in other forms.
func TestSeconds(t *testing.T) {
	for _, state := range []int{2, 4, 5} {
		xid, now := xidOf(state), cameAt(state)
		for _, secs := range []uint32{60, 61, 255, 256, 65536, 1 << 24, 999_999_999, 1_000_000_000} {
			c := at(t, state)
			checkGet(t, c, granted(xid, secs), now, state == 2)
			checkBound(t, c, 3, has(now+int64(secs)))
		}
		for _, secs := range []uint32{1_000_000_001, 1<<31 - 1, 1 << 31, 1<<31 + 59, 1<<32 - 1} {
			c := at(t, state)
			checkGet(t, c, granted(xid, secs), now, state == 2)
			checkBound(t, c, 3, has(now+1_000_000_000))
		}
		for _, secs := range []uint32{0, 1, 30, 58, 59} {
			checkIgnored(t, state, granted(xid, secs))
		}
		for _, o := range []opt.Option{option(52, 0, 0, 3, 0), option(51+256, 0, 0, 3, 0), option(51), option(51, 200), option(51, 0, 3, 0), option(51, 0, 0, 3, 0, 0), option(51, 0, 0, 3, 0, 0, 0, 3, 0)} {
			checkIgnored(t, state, reply(ack, xid, server(his()), o))
			if o.Code == 51 {
				checkIgnored(t, state, reply(ack, xid, server(his()), o, lasts(700)))
			}
		}
		checkIgnored(t, state, reply(ack, xid, server(his())))
		checkIgnored(t, state, reply(ack, xid, server(his()), lasts(59), lasts(700)))
	}
}

// TestServersOfGrants has option 54 in all forms: only in state 5 it may be any
// address.
func TestServersOfGrants(t *testing.T) {
	addrs := []api.Addr{{}, hers(), home(), {255, 255, 255, 255}}
	for bit := range 32 {
		addrs = append(addrs, addr.Of(addr.Num(his())^1<<bit))
	}
	for _, state := range []int{2, 4, 5} {
		for _, a := range addrs {
			m := reply(ack, xidOf(state), lasts(700), server(a), server(his()), masks(mask()), routes(router()))
			if state != 5 {
				checkIgnored(t, state, m)
				continue
			}
			c := at(t, state)
			checkGet(t, c, m, 850, false)
			want := has(1550)
			want.Server = a
			checkBound(t, c, 3, want)
		}
		for _, o := range noServers() {
			checkIgnored(t, state, reply(ack, xidOf(state), lasts(700), o))
			if o.Code == 54 {
				checkIgnored(t, state, reply(ack, xidOf(state), lasts(700), o, server(his())))
			}
		}
		checkIgnored(t, state, yours(granted(xidOf(state), 700), api.Addr{}))
	}
}

// TestServerOfZeros has a server with an address of zeros, which is not the same as
// none.
func TestServerOfZeros(t *testing.T) {
	zeros := func() (*lease.Client, api.Addr) {
		c := at(t, 1)
		checkGet(t, c, reply(offer, firstXid, server(api.Addr{})), offerAt, false, requesting(firstXid, home(), api.Addr{}))
		return c, api.Addr{}
	}
	for _, o := range noServers() {
		c, s := zeros()
		for _, kind := range []byte{ack, nak} {
			checkGet(t, c, reply(kind, firstXid, o, lasts(700)), offerAt, false)
			checkFree(t, c, 2)
		}
		checkGet(t, c, reply(ack, firstXid, server(s), lasts(100)), offerAt, true)
		checkBound(t, c, 3, lease.Bound{Addr: home(), Until: offerAt + 100})
		checkTick(t, c, offerAt+50, 6, renewing(6, home()))
		checkGet(t, c, reply(ack, 6, o, lasts(700)), offerAt+50, false)
		checkBound(t, c, 4, lease.Bound{Addr: home(), Until: offerAt + 100})
		checkTick(t, c, offerAt+87, 7, renewing(6, home()))
		checkGet(t, c, reply(ack, 6, o, lasts(700)), offerAt+87, false)
		checkBound(t, c, 5, lease.Bound{Addr: home(), Until: offerAt + 100})
	}
	c, s := zeros()
	checkGet(t, c, reply(nak, firstXid, server(s)), offerAt, false)
	checkFree(t, c, 0)
}

// TestMasksAndRouters has the options 1 and 3 in all forms: those of a lease before
// are not kept.
func TestMasksAndRouters(t *testing.T) {
	none, a := api.Addr{}, api.Addr{1, 2, 3, 4}
	cases := []struct {
		mask, router opt.Option
		isMask, is   api.Addr
	}{
		{option(1, 1, 2, 3, 4), option(3, 1, 2, 3, 4), a, a},
		{option(1, 255, 255, 0, 255), option(3, 9, 8, 7, 6, 5, 4, 3, 2), api.Addr{255, 255, 0, 255}, api.Addr{9, 8, 7, 6}},
		{option(1, 1, 2, 3, 4, 5), option(3, 1, 2, 3, 4, 5), none, a},
		{option(1, 1, 2, 3, 4, 1, 2, 3, 4), option(3, 1, 2, 3, 4, 0, 0, 0), none, a},
		{option(1, 1, 2, 3), option(3, 1, 2, 3), none, none},
		{option(1, 1), option(3, 1), none, none},
		{option(1), option(3), none, none},
		{option(2, 1, 2, 3, 4), option(4, 1, 2, 3, 4), none, none},
		{option(0, 1, 2, 3, 4), option(6, 1, 2, 3, 4), none, none},
		{option(-1, 1, 2, 3, 4), option(3+256, 1, 2, 3, 4), none, none},
		{option(1, 0, 0, 0, 0), option(3, 0, 0, 0, 0, 1, 2, 3, 4), none, none},
		{option(1, make([]byte, 300)...), option(3, append([]byte{1, 2, 3, 4}, make([]byte, 300)...)...), none, a},
	}
	for _, state := range []int{2, 4, 5} {
		for _, x := range cases {
			for _, y := range cases {
				c := at(t, state)
				m := reply(ack, xidOf(state), y.router, lasts(700), x.mask, server(his()))
				checkGet(t, c, m, 870, state == 2)
				want := lease.Bound{Addr: home(), Mask: x.isMask, Router: y.is, Server: his(), Until: 1570}
				checkBound(t, c, 3, want)
				if x.mask.Code != 1 || y.router.Code != 3 {
					continue
				}
				c = at(t, state)
				m.Opts = append(m.Opts, masks(hers()), routes(hers()))
				checkGet(t, c, m, 870, state == 2)
				checkBound(t, c, 3, want)
			}
		}
	}
}

// TestRefusals has a NAK with option 54 in all forms: it counts in state 2 alone.
func TestRefusals(t *testing.T) {
	opts := noServers()
	for _, a := range []api.Addr{{}, hers(), home(), {255, 255, 255, 255}} {
		opts = append(opts, server(a))
	}
	for bit := range 32 {
		opts = append(opts, server(addr.Of(addr.Num(his())^1<<bit)))
	}
	for _, o := range opts {
		checkIgnored(t, 2, reply(nak, firstXid, o))
		checkIgnored(t, 2, reply(nak, firstXid, o, lasts(700)))
		if o.Code == 54 {
			checkIgnored(t, 2, reply(nak, firstXid, o, server(his())))
		}
		for _, state := range []int{4, 5} {
			checkRefused(t, state, reply(nak, nextXid, o))
			checkRefused(t, state, yours(reply(nak, nextXid, o, server(his())), api.Addr{}))
		}
	}
	checkIgnored(t, 2, reply(nak, firstXid))
	checkRefused(t, 2, yours(refused(firstXid), api.Addr{}))
	checkRefused(t, 2, yours(refused(firstXid), other()))
	checkRefused(t, 2, reply(nak, firstXid, server(his()), server(hers())))
	for _, state := range []int{2, 4, 5} {
		checkRefused(t, state, refused(xidOf(state)))
	}
	for _, state := range []int{4, 5} {
		checkRefused(t, state, reply(nak, nextXid))
	}
	checkIgnored(t, 1, refused(firstXid))
}

// checkRefused has a message after which a client has nothing, and seeks as a new one.
func checkRefused(t *testing.T, state int, m dhcp.Message) {
	t.Helper()
	c := at(t, state)
	now := cameAt(state) + 15
	checkGet(t, c, m, now, state >= 4)
	checkFree(t, c, 0)
	checkGet(t, c, m, now, false)
	checkGet(t, c, granted(xidOf(state), 700), now, false)
	checkNew(t, c, now)
}

// checkNew has a client in state 0, which does as a new one whatever was before.
func checkNew(t *testing.T, c *lease.Client, now int64) {
	t.Helper()
	checkFree(t, c, 0)
	checkTick(t, c, now, 11, seeking(11))
	checkFree(t, c, 1)
	checkTick(t, c, now+3, 12)
	checkTick(t, c, now+4, 12, seeking(11))
	checkTick(t, c, now+11, 12)
	checkTick(t, c, now+12, 12, seeking(11))
	checkGet(t, c, yours(reply(offer, 11, server(hers())), other()), now+13, false, requesting(11, other(), hers()))
	for _, d := range []int64{4, 12, 28} {
		checkTick(t, c, now+13+d-1, 12)
		checkTick(t, c, now+13+d, 12, requesting(11, other(), hers()))
	}
	checkFree(t, c, 2)
	checkGet(t, c, yours(reply(ack, 11, server(hers()), lasts(80)), other()), now+50, true)
	checkBound(t, c, 3, lease.Bound{Addr: other(), Server: hers(), Until: now + 130})
	checkTick(t, c, now+89, 13)
	checkTick(t, c, now+90, 13, renewing(13, other()))
}

func TestLose(t *testing.T) {
	for state := range 6 {
		c := at(t, state)
		c.Lose()
		checkFree(t, c, 0)
		c.Lose()
		checkFree(t, c, 0)
		for _, m := range effective(max(state, 1)) {
			checkGet(t, c, m, cameAt(state), false)
		}
		checkNew(t, c, cameAt(state))
	}
	c := lease.New(mac())
	for range 3 {
		for now := range int64(200) {
			c.Tick(now, 5)
		}
		c.Lose()
		checkNew(t, c, 200)
		c = at(t, 2)
		c.Lose()
	}
}

// TestChanged has what Get returns for the same address and for another one: after a
// loss, also the same one is another.
func TestChanged(t *testing.T) {
	c := at(t, 5)
	checkGet(t, c, yours(reply(ack, nextXid, server(hers()), lasts(80)), other()), 850, true)
	checkTick(t, c, 890, 5, renewing(5, other()))
	checkGet(t, c, granted(5, 700), 890, false)
	checkBound(t, c, 4, lease.Bound{Addr: other(), Server: hers(), Until: 930})
	checkGet(t, c, yours(reply(ack, 5, server(hers()), lasts(90)), other()), 890, false)
	checkTick(t, c, 935, 6, renewing(6, other()))
	checkGet(t, c, reply(ack, 6, server(hers()), lasts(100)), 940, true)
	checkBound(t, c, 3, lease.Bound{Addr: home(), Server: hers(), Until: 1040})
	for _, lose := range []func(c *lease.Client){
		func(c *lease.Client) { c.Lose() },
		func(c *lease.Client) { c.Get(refused(nextXid), t1At) },
	} {
		c = at(t, 4)
		lose(c)
		checkTick(t, c, 600, 5, seeking(5))
		checkGet(t, c, offered(5), 600, false, requesting(5, home(), his()))
		checkGet(t, c, granted(5, 700), 600, true)
		checkBound(t, c, 3, has(1300))
	}
	c = at(t, 3)
	checkTick(t, c, endAt, 5, seeking(5))
	checkGet(t, c, offered(5), endAt, false, requesting(5, home(), his()))
	checkGet(t, c, granted(5, 700), endAt, true)
}

// TestAfterTheEnd has answers that come after the end of a lease, but before the next
// Tick: the client is bound until that.
func TestAfterTheEnd(t *testing.T) {
	for _, state := range []int{4, 5} {
		c := at(t, state)
		checkGet(t, c, granted(nextXid, 700), 2000, false)
		checkBound(t, c, 3, has(2700))
		checkTick(t, c, 2349, 5)
		c = at(t, state)
		checkGet(t, c, yours(granted(nextXid, 700), other()), 2000, true)
		c = at(t, state)
		checkGet(t, c, refused(nextXid), 2000, true)
		checkFree(t, c, 0)
	}
}

// TestMessagesWithOtherFields changes those that mean nothing to the client.
func TestMessagesWithOtherFields(t *testing.T) {
	for _, n := range []int{0, -1, 1, 255, 256, 65535, 65536, 1 << 40} {
		for bit := range 32 {
			change := func(m dhcp.Message) dhcp.Message {
				m.Hops, m.Secs, m.Flags = n, n, n
				m.Client, m.Server, m.Relay = addr.Of(1<<bit), addr.Of(1<<bit), addr.Of(1<<bit)
				m.Opts = slices.Concat([]opt.Option{option(bit+60, 1, 2, 3, 4)}, m.Opts, []opt.Option{option(50, 9, 9, 9, 9), option(55, 9)})
				return m
			}
			c := at(t, 1)
			checkGet(t, c, change(offered(firstXid)), offerAt, false, requesting(firstXid, home(), his()))
			checkGet(t, c, change(granted(firstXid, leaseSecs)), boundAt, true)
			checkBound(t, c, 3, has(endAt))
			checkTick(t, c, t1At, nextXid, renewing(nextXid, home()))
			checkGet(t, c, change(refused(nextXid)), t1At, true)
			checkFree(t, c, 0)
		}
	}
}
