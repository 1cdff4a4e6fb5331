package lease_test

import (
	"encoding/binary"
	"math"
	"slices"
	"testing"

	"gatehouse/api"
	"gatehouse/dhcp"
	"gatehouse/lease"
	"gatehouse/opt"
)

// plain is the word of the chapter: it keeps the last message as it was sent, and
// what an ACK told.
type plain struct {
	mac     api.Mac
	now     int64
	state   int
	xid     uint32
	wait    int64
	last    dhcp.Message
	lastAt  int64
	count   int
	has     lease.Bound
	gotAt   int64
	seconds int64
	asked   api.Addr // the server of state 2
}

func (p *plain) hear(now int64) {
	if 0 <= now && now <= api.MaxTime {
		p.now = max(p.now, now)
	}
}

func (p *plain) send(state int, m dhcp.Message) []dhcp.Message {
	p.state, p.lastAt, p.last = state, p.now, m
	p.count++
	return []dhcp.Message{m}
}

func (p *plain) made(flags int, client api.Addr, opts ...opt.Option) dhcp.Message {
	return dhcp.Message{Op: 1, Xid: p.xid, Flags: flags, Client: client, Mac: p.mac, Opts: opts}
}

func (p *plain) tick(now int64, draw uint32) []dhcp.Message {
	p.hear(now)
	if p.state >= 3 && p.now >= p.has.Until {
		p.state = 0
	}
	ago := p.now - p.lastAt
	switch {
	case p.state == 0:
		p.xid, p.wait = draw, 4
		return p.send(1, p.made(32768, api.Addr{}, option(53, 1), option(55, 1, 3, 6)))
	case p.state == 1 && ago >= p.wait, p.state == 2 && ago >= p.wait && p.count != 4:
		if p.wait < 64 {
			p.wait += p.wait
		}
		return p.send(p.state, p.last)
	case p.state == 2 && ago >= p.wait:
		p.state = 0
	case p.state == 3 && p.now-p.gotAt >= p.seconds>>1:
		p.xid = draw
		return p.send(4, p.made(0, p.has.Addr, option(53, 3)))
	case p.state == 4 && 8*(p.now-p.gotAt+1) > 7*p.seconds:
		return p.send(5, p.last)
	case p.state >= 4 && ago >= 60:
		return p.send(p.state, p.last)
	}
	return nil
}

// tells returns the bytes of the first option with a Code.
func tells(m dhcp.Message, code int) []byte {
	i := slices.IndexFunc(m.Opts, func(o opt.Option) bool { return o.Code == code })
	if i < 0 {
		return nil
	}
	return m.Opts[i].Body
}

// four returns those bytes as an address, if they are four.
func four(m dhcp.Message, code int) (a api.Addr, ok bool) {
	body := tells(m, code)
	if ok = len(body) == 4; ok {
		copy(a[:], body)
	}
	return a, ok
}

func (p *plain) get(m dhcp.Message, now int64) ([]dhcp.Message, bool) {
	p.hear(now)
	if p.state == 0 || p.state == 3 || m.Op != 2 || m.Mac != p.mac || m.Xid != p.xid || len(tells(m, 53)) != 1 {
		return nil, false
	}
	server, isServer := four(m, 54)
	kind, was := tells(m, 53)[0], p.state
	switch {
	case was == 1:
		if kind == 2 && isServer && m.Your != (api.Addr{}) {
			p.wait, p.count, p.asked = 4, 0, server
			return p.send(2, p.made(32768, api.Addr{}, option(53, 3), option(50, m.Your[:]...), option(54, server[:]...), option(55, 1, 3, 6))), false
		}
	case kind == 6:
		if was == 2 && !(isServer && server == p.asked) {
			return nil, false
		}
		p.state = 0
		return nil, was != 2
	case kind == 5 && isServer:
		if was == 2 && server != p.asked || was == 4 && server != p.has.Server {
			return nil, false
		}
		return nil, p.bind(m, server)
	}
	return nil, false
}

func (p *plain) bind(m dhcp.Message, server api.Addr) bool {
	body := tells(m, 51)
	if len(body) != 4 || m.Your == (api.Addr{}) || binary.BigEndian.Uint32(body) < 60 {
		return false
	}
	seconds := int64(binary.BigEndian.Uint32(body))
	if seconds > 1e9 {
		seconds = 1e9
	}
	changed := p.state == 2 || p.has.Addr != m.Your
	p.state, p.gotAt, p.seconds = 3, p.now, seconds
	p.has = lease.Bound{Addr: m.Your, Server: server, Until: p.now + seconds}
	p.has.Mask, _ = four(m, 1)
	if len(tells(m, 3)) >= 4 {
		copy(p.has.Router[:], tells(m, 3))
	}
	return changed
}

// both is a client and its model, with what was called so far.
type both struct {
	client *lease.Client
	plain  *plain
	calls  []any
}

func newBoth() *both { return &both{client: lease.New(mac()), plain: &plain{mac: mac()}} }

// check compares all that can be seen of both without a change.
func (b *both) check(t *testing.T, same bool, got, want any) {
	t.Helper()
	has, ok := b.client.Bound()
	var wantHas lease.Bound
	if b.plain.state >= 3 {
		wantHas = b.plain.has
	}
	if !same || ok != (b.plain.state >= 3) || has != wantHas || b.client.State() != b.plain.state {
		t.Fatalf("P16.1, P16.2: %+v instead of %+v, and %+v, %v in state %d instead of %+v in state %d after %+v", got, want, has, ok, b.client.State(), wantHas, b.plain.state, b.calls)
	}
}

func (b *both) tick(t *testing.T, now int64, draw uint32) {
	t.Helper()
	b.calls = append(b.calls, "Tick", now, draw)
	l, want := b.client.Tick(now, draw), b.plain.tick(now, draw)
	b.check(t, sameMessages(l, want), l, want)
}

func (b *both) get(t *testing.T, m dhcp.Message, now int64) {
	t.Helper()
	b.calls = append(b.calls, m, now)
	l, ok := b.client.Get(m, now)
	want, wantOk := b.plain.get(m, now)
	b.check(t, ok == wantOk && sameMessages(l, want), l, want)
}

func (b *both) lose(t *testing.T) {
	t.Helper()
	b.calls = append(b.calls, "Lose")
	b.client.Lose()
	b.plain.state = 0
	b.check(t, true, nil, nil)
}

// dice is a row of numbers that is the same in each run.
type dice uint64

func (d *dice) roll(n int) int {
	*d = *d*6364136223846793005 + 1442695040888963407
	return int(uint64(*d)>>33) % n
}

func pick[T any](d *dice, l ...T) T { return l[d.roll(len(l))] }

func (d *dice) addr() api.Addr {
	return pick(d, home(), home(), home(), home(), other(), his(), api.Addr{}, api.Addr{byte(d.roll(256)), byte(d.roll(256)), 0, byte(d.roll(256))})
}

func (d *dice) secs() uint32 {
	switch d.roll(12) {
	case 0:
		return uint32(d.roll(1 << 31))
	case 1:
		return pick[uint32](d, 59, 0, 1<<32-1, 999_999_999, 1_000_000_000, 1_000_000_001, 1<<31, 255)
	}
	return uint32(60 + d.roll(pick(d, 2, 20, 300, 4000)))
}

// body returns bytes that are mostly those of an address.
func (d *dice) body(code int, a api.Addr) opt.Option {
	size := 4
	if d.roll(12) == 0 {
		size = d.roll(9)
	}
	return opt.Option{Code: code, Body: append(a[:], 5, 6, 7, 8)[:size]}
}

// answer returns a message of a server, which mostly is right for a state.
func (d *dice) answer(p *plain) dhcp.Message {
	kind := byte(ack)
	if p.state < 2 {
		kind = offer
	}
	kind = pick(d, kind, kind, kind, kind, kind, kind, kind, nak, offer, ack, byte(d.roll(12)))
	m := dhcp.Message{Op: 2, Hops: d.roll(9), Xid: p.xid, Secs: d.roll(9), Flags: d.roll(1 << 16), Client: d.addr(), Your: d.addr(), Server: d.addr(), Relay: d.addr(), Mac: p.mac}
	switch d.roll(30) {
	case 0:
		m.Op = d.roll(5) - 1
	case 1:
		m.Mac[d.roll(6)]++
	case 2:
		m.Xid += uint32(d.roll(5) - 2)
	}
	secs := lasts(d.secs())
	if d.roll(20) == 0 {
		secs.Body = secs.Body[:d.roll(4)]
	}
	m.Opts = []opt.Option{
		option(53, kind), d.body(54, pick(d, his(), his(), his(), his(), his(), hers(), api.Addr{})), secs,
		d.body(1, pick(d, mask(), d.addr())), d.body(3, pick(d, router(), d.addr())),
	}
	for range d.roll(4) {
		i, j := d.roll(len(m.Opts)), d.roll(len(m.Opts))
		m.Opts[i], m.Opts[j] = m.Opts[j], m.Opts[i]
	}
	m.Opts = append(m.Opts, opt.Option{Code: pick(d, 53, 54, 51, 1, 3), Body: []byte{1, 2, 3, 4}})
	if d.roll(6) == 0 {
		i := d.roll(len(m.Opts))
		m.Opts = slices.Delete(m.Opts, i, i+1)
	}
	return m
}

// time returns one that is told after now: mostly one near to the next at which
// something is due.
func (d *dice) time(p *plain) int64 {
	due := p.lastAt + pick(d, p.wait, p.wait, 60)
	if p.state >= 3 {
		due = p.gotAt + pick(d, p.seconds/2, p.seconds*7/8, p.seconds, p.lastAt-p.gotAt+60)
	}
	switch d.roll(10) {
	case 0:
		return pick(d, -1, math.MinInt64, api.MaxTime+1, math.MaxInt64, p.now-1, p.now-70, 0)
	case 1:
		return p.now + int64(d.roll(100))
	case 2, 3:
		return p.now
	case 4:
		return p.now + 1
	}
	return due + int64(d.roll(4)-2)
}

func (b *both) step(t *testing.T, d *dice) {
	t.Helper()
	now := d.time(b.plain)
	switch kind := d.roll(100); {
	case kind < 55:
		b.tick(t, now, uint32(d.roll(1<<31)))
	case kind < 99:
		b.get(t, d.answer(b.plain), now)
	default:
		b.lose(t)
	}
}

// TestAgainstTheWords has long rows of calls, in which time stands, goes on, leaps and
// is odd.
func TestAgainstTheWords(t *testing.T) {
	times := map[int]int{}
	moves := map[[2]int]int{}
	for seed := range 1500 {
		d := dice(seed)
		b := newBoth()
		for range 300 {
			was := b.plain.state
			b.step(t, &d)
			times[b.plain.state]++
			moves[[2]int{was, b.plain.state}]++
		}
	}
	for state := range 6 {
		if times[state] < 4000 {
			t.Errorf("only %d times in state %d", times[state], state)
		}
	}
	for _, m := range [][2]int{{0, 1}, {1, 2}, {2, 0}, {2, 3}, {3, 1}, {3, 4}, {4, 0}, {4, 1}, {4, 3}, {4, 5}, {5, 0}, {5, 1}, {5, 3}} {
		if moves[m] < 200 {
			t.Errorf("only %d times from state %d to %d", moves[m], m[0], m[1])
		}
	}
}

// calm brings both to a state, as at does.
func calm(t *testing.T, state int) *both {
	b := newBoth()
	if state >= 1 {
		b.tick(t, seekAt, firstXid)
	}
	if state >= 2 {
		b.get(t, offered(firstXid), offerAt)
	}
	if state >= 3 {
		b.get(t, granted(firstXid, 80), boundAt)
	}
	if state >= 4 {
		b.tick(t, boundAt+40, nextXid)
	}
	if state >= 5 {
		b.tick(t, boundAt+70, 5)
	}
	return b
}

// current lets a message have the Xid of the client, and come now.
func current(m dhcp.Message) func(t *testing.T, b *both) {
	return func(t *testing.T, b *both) {
		m.Xid = b.plain.xid
		b.get(t, m, b.plain.now)
	}
}

// after has a Tick that is later by so many seconds.
func after(secs int64) func(t *testing.T, b *both) {
	return func(t *testing.T, b *both) { b.tick(t, b.plain.now+secs, uint32(secs)) }
}

// TestAllShortRows has all rows of four calls of several kinds from each state.
func TestAllShortRows(t *testing.T) {
	kinds := []func(t *testing.T, b *both){
		after(0), after(4), after(8), after(30), after(60), after(200),
		current(offered(0)),
		current(yours(reply(offer, 0, server(hers())), other())),
		current(granted(0, 60)),
		current(yours(granted(0, 900), other())),
		current(yours(reply(ack, 0, server(hers()), lasts(60)), other())),
		current(refused(0)),
		current(reply(nak, 0, server(hers()))),
		func(t *testing.T, b *both) { b.lose(t) },
	}
	const length = 4
	rows := 1
	for range length {
		rows *= len(kinds)
	}
	for state := range 6 {
		for row := range rows {
			b := calm(t, state)
			for rest, i := row, 0; i < length; rest, i = rest/len(kinds), i+1 {
				kinds[rest%len(kinds)](t, b)
			}
		}
	}
}

// TestLongLife has a client for many days, with a server that is silent at times.
func TestLongLife(t *testing.T) {
	d := dice(7)
	b := newBoth()
	silent := false
	var now int64
	for range 200_000 {
		now++
		if d.roll(200) == 0 {
			silent = !silent
		}
		was := b.plain.lastAt
		b.calls = b.calls[:0]
		b.tick(t, now, uint32(d.roll(1<<31)))
		if b.plain.lastAt == was || silent {
			continue
		}
		b.get(t, offered(b.plain.xid), now)
		b.get(t, granted(b.plain.xid, uint32(60+d.roll(300))), now)
	}
}
