package serve_test

import (
	"encoding/binary"
	"math"
	"reflect"
	"slices"
	"testing"

	"gatehouse/addr"
	"gatehouse/api"
	"gatehouse/conf"
	"gatehouse/dhcp"
	"gatehouse/opt"
	"gatehouse/pool"
	"gatehouse/serve"
)

// plain is the word of the chapter, with a pool that is called just where the words
// say so.
type plain struct {
	c    conf.Conf
	pool *pool.Pool
}

func newPlain(t *testing.T, c conf.Conf) *plain {
	t.Helper()
	var fixed []pool.Lease
	for _, f := range c.Fixed {
		fixed = append(fixed, pool.Lease{Mac: f.Mac, Addr: f.Addr})
	}
	p, e := pool.New(c.First, c.Last, fixed)
	if e != api.OK {
		t.Fatalf("pool.New: %d", e)
	}
	return &plain{c, p}
}

// decide returns the type of the answer and its Your, or 0 for none.
func (p *plain) decide(m dhcp.Message, now int64) (byte, api.Addr) {
	none := api.Addr{}
	wanted, wants := opt.Addr(m.Opts, 50)
	other, tells := opt.Addr(m.Opts, 54)
	kind := dhcp.Type(m)
	switch {
	case m.Op != 1:
		return 0, none
	case kind == discover:
		if a, e := p.pool.Offer(m.Mac, wanted, now); e == api.OK {
			return offer, a
		}
	case kind == request:
		a := m.Client
		if wants {
			a = wanted
		}
		if tells && other != p.c.Own || a == none {
			return 0, none
		}
		if p.pool.Take(m.Mac, a, now, int64(p.c.Time)) == api.OK {
			return ack, a
		}
		return nak, none
	case kind == decline:
		if a, ok := p.pool.Of(m.Mac, now); ok && wants && a == wanted {
			p.pool.Bar(a, now, 600)
		}
	case kind == release:
		p.pool.End(m.Mac, m.Client)
	case kind == inform && m.Client != none:
		return ack, none
	}
	return 0, none
}

func (p *plain) get(m dhcp.Message, now int64) (serve.Answer, bool) {
	kind, your := p.decide(m, now)
	if kind == 0 {
		return serve.Answer{}, false
	}
	own := p.c.Own[:]
	mask := binary.BigEndian.AppendUint32(nil, math.MaxUint32-uint32(1<<(32-p.c.Lan.Bits)-1))
	out := dhcp.Message{Op: 2, Xid: m.Xid, Flags: m.Flags, Relay: m.Relay, Mac: m.Mac, Server: p.c.Own, Your: your}
	out.Opts = []opt.Option{option(53, kind), option(54, own...)}
	if kind == ack {
		out.Client = m.Client
	}
	if kind != nak {
		if dhcp.Type(m) != inform {
			out.Opts = append(out.Opts, option(51, binary.BigEndian.AppendUint32(nil, uint32(p.c.Time))...))
		}
		out.Opts = append(out.Opts, option(1, mask...), option(3, own...), option(6, own...))
	}
	a := toAll(out)
	if m.Client != (api.Addr{}) && kind != nak {
		a.Mac, a.To = m.Mac, m.Client
	} else if kind != nak && uint64(m.Flags)>>15%2 == 0 {
		a.Mac, a.To = m.Mac, your
	}
	return a, true
}

func (p *plain) holds(a api.Addr, now int64) bool {
	for _, f := range p.c.Fixed {
		if a == f.Addr {
			return true
		}
	}
	for _, l := range p.pool.All(now) {
		if a == l.Addr {
			return true
		}
	}
	return false
}

// both is a server and its model, with what was called so far.
type both struct {
	server *serve.Server
	plain  *plain
	calls  []any
	kinds  map[byte]int
}

func newBoth(t *testing.T, c conf.Conf) *both {
	t.Helper()
	return &both{server: made(t, c), plain: newPlain(t, c), calls: []any{c}, kinds: map[byte]int{}}
}

func (b *both) check(t *testing.T, same bool, got, want any) {
	t.Helper()
	if !same {
		t.Fatalf("P15.1, P15.2: %+v instead of %+v after %+v", got, want, b.calls)
	}
}

func (b *both) get(t *testing.T, m dhcp.Message, now int64) {
	t.Helper()
	b.calls = append(b.calls, m, now)
	a, ok := b.server.Get(m, now)
	want, wantOk := b.plain.get(m, now)
	b.check(t, ok == wantOk && reflect.DeepEqual(a, want), a, want)
	b.kinds[byte(dhcp.Type(a.Message))]++
}

func (b *both) tick(t *testing.T, now int64) {
	t.Helper()
	b.calls = append(b.calls, "Tick", now)
	l, want := b.server.Tick(now), b.plain.pool.Tick(now)
	b.check(t, slices.Equal(l, want), l, want)
}

func (b *both) all(t *testing.T, now int64) {
	t.Helper()
	b.calls = append(b.calls, "All", now)
	l, want := b.server.All(now), b.plain.pool.All(now)
	b.check(t, slices.Equal(l, want), l, want)
}

func (b *both) holds(t *testing.T, a api.Addr, now int64) {
	t.Helper()
	b.calls = append(b.calls, "Holds", a, now)
	ok, want := b.server.Holds(a, now), b.plain.holds(a, now)
	b.check(t, ok == want, ok, want)
}

// dice is a row of numbers that is the same in each run.
type dice uint64

func (d *dice) roll(n int) int {
	*d = *d*6364136223846793005 + 1442695040888963407
	return int(uint64(*d)>>33) % n
}

// oddTime returns a time that is out of range, or one that goes back.
func (d *dice) oddTime(now int64) int64 {
	odd := []int64{-1, math.MinInt64, api.MaxTime + 1, math.MaxInt64, now - 1, now - 200, now / 2, 0}
	return odd[d.roll(len(odd))]
}

// addr returns an address near those that hosts may have, or, seldom, any other.
func (d *dice) addr(c conf.Conf) api.Addr {
	first, last := addr.Num(c.First), addr.Num(c.Last)
	switch d.roll(12) {
	case 0:
		return api.Addr{}
	case 1:
		return c.Own
	case 2:
		if len(c.Fixed) > 0 {
			return c.Fixed[d.roll(len(c.Fixed))].Addr
		}
	case 3:
		return addr.Of(uint32(d.roll(1<<31) * 2))
	case 4:
		return addr.Of(last + 1)
	}
	return addr.Of(first + uint32(d.roll(int(last-first)+1)))
}

// addrOption returns an option with an address, or, seldom, with other bytes.
func (d *dice) addrOption(c conf.Conf, code int) opt.Option {
	a := d.addr(c)
	size := 4
	if d.roll(10) == 0 {
		size = d.roll(7)
	}
	return opt.Option{Code: code, Body: append(a[:], a[:]...)[:size]}
}

func (d *dice) flags() int {
	list := []int{0, 0, 0, 0x8000, 0x8000, 0x7fff, 0xffff, 0x10000, 0x18000, -1, -0x8001, math.MinInt, math.MaxInt}
	return list[d.roll(len(list))]
}

func (d *dice) message(c conf.Conf, macs int) dhcp.Message {
	m := dhcp.Message{Op: 1, Hops: d.roll(300), Xid: uint32(d.roll(1 << 31)), Secs: d.roll(99), Flags: d.flags(), Relay: d.addr(c), Server: d.addr(c), Your: d.addr(c), Mac: mac(d.roll(macs))}
	if d.roll(40) == 0 {
		m.Op = d.roll(5) - 1
	}
	if d.roll(2) == 0 {
		m.Client = d.addr(c)
	}
	kinds := []byte{discover, discover, discover, request, request, request, request, request, decline, release, inform, byte(d.roll(256))}
	m.Opts = []opt.Option{option(53, kinds[d.roll(len(kinds))])}
	if d.roll(40) == 0 {
		m.Opts = [][]opt.Option{nil, {option(53, 3, 3)}, {option(53, 3, 3), option(53, 3)}, {option(53, 3), option(53, 1)}}[d.roll(4)]
	}
	if d.roll(3) > 0 {
		m.Opts = append(m.Opts, d.addrOption(c, 50))
	}
	switch d.roll(6) {
	case 0:
		m.Opts = append([]opt.Option{d.addrOption(c, 54)}, m.Opts...)
	case 1:
		m.Opts = append(m.Opts, server(c.Own))
	}
	return m
}

// asHostsDo has a host that is offered an address, and takes it, or gives up the one
// that it had already.
func (b *both) asHostsDo(t *testing.T, d *dice, macs int, now int64) {
	t.Helper()
	m := mac(d.roll(macs))
	found := dhcp.Message{Op: 1, Mac: m, Opts: []opt.Option{option(53, discover), d.addrOption(b.plain.c, 50)}}
	a, ok := b.server.Get(found, now)
	b.get(t, found, now)
	if !ok {
		return
	}
	your := a.Message.Your
	switch d.roll(8) {
	case 0:
		b.get(t, dhcp.Message{Op: 1, Mac: m, Opts: []opt.Option{option(53, decline), want(your)}}, now)
	case 1:
		b.get(t, dhcp.Message{Op: 1, Mac: m, Client: your, Opts: []opt.Option{option(53, release)}}, now)
	case 2:
		b.get(t, dhcp.Message{Op: 1, Mac: m, Client: your, Flags: d.flags(), Opts: []opt.Option{option(53, request)}}, now)
	default:
		b.get(t, dhcp.Message{Op: 1, Mac: m, Flags: d.flags(), Opts: []opt.Option{option(53, request), server(b.plain.c.Own), want(your)}}, now)
	}
}

func (b *both) step(t *testing.T, d *dice, macs int, now int64) {
	t.Helper()
	switch d.roll(10) {
	case 0:
		b.tick(t, now)
	case 1:
		b.all(t, now)
	case 2:
		b.holds(t, d.addr(b.plain.c), now)
	case 3, 4, 5:
		b.asHostsDo(t, d, macs, now)
	default:
		b.get(t, d.message(b.plain.c, macs), now)
	}
}

// someConf returns a configuration with so many addresses in the pool and so many
// fixed ones, some of which are in the pool.
func someConf(d *dice, size, fixed int) conf.Conf {
	c := config()
	c.Lan.Bits = 8 + d.roll(17)
	c.Lan.Addr = addr.Net{Addr: c.Own, Bits: c.Lan.Bits}.First()
	c.Own[3] = byte(1 + d.roll(90))
	c.First, c.Last = at(100), at(99+size)
	c.Time = 60 + d.roll(90)*d.roll(2)
	c.Fixed = nil
	for i := range fixed {
		c.Fixed = append(c.Fixed, conf.Fixed{Mac: mac(2 * i), Addr: at(99 + i*(size+1)/max(fixed-1, 1))})
	}
	return c
}

// TestAgainstTheWords has long rows of calls for pools of several sizes, with fewer
// hosts than addresses and with more, in which time stands, goes on, leaps and is
// odd.
func TestAgainstTheWords(t *testing.T) {
	kinds := map[byte]int{}
	for seed := range 300 {
		d := dice(seed)
		sizes, fixed := []int{1, 2, 3, 5, 8, 13, 64}, []int{0, 1, 2, 3, 5}
		size := sizes[seed%len(sizes)]
		b := newBoth(t, someConf(&d, size, min(fixed[seed%len(fixed)], size)))
		macs := 1 + d.roll(2*size+3)
		now := int64(d.roll(3))
		for range 400 {
			told := now
			switch d.roll(30) {
			case 0, 1, 2, 3, 4, 5:
				now += int64(d.roll(20))
				told = now
			case 6:
				now += int64(d.roll(400))
				told = now
			case 7:
				told = d.oddTime(now)
			}
			b.step(t, &d, macs, told)
		}
		b.end(t, macs)
		for kind, n := range b.kinds {
			kinds[kind] += n
		}
	}
	for _, kind := range []byte{0, offer, ack, nak} {
		if kinds[kind] < 5000 {
			t.Errorf("only %d answers of type %d", kinds[kind], kind)
		}
	}
}

// end makes calls that tell what is left of all those before.
func (b *both) end(t *testing.T, macs int) {
	t.Helper()
	b.all(t, -1)
	for n := range 256 {
		b.holds(t, at(n), -1)
	}
	for m := range macs {
		b.get(t, message(discover, m), -1)
	}
	b.tick(t, -1)
}

// TestAllShortRows has all rows of four calls of several kinds, with two addresses
// and two hosts, and after each call its time or a later one.
func TestAllShortRows(t *testing.T) {
	of := func(m dhcp.Message) func(t *testing.T, b *both, now int64) {
		return func(t *testing.T, b *both, now int64) { b.get(t, m, now) }
	}
	kinds := []func(t *testing.T, b *both, now int64){
		of(message(discover, 1)),
		of(message(request, 1, want(at(100)))),
		of(message(request, 1, want(at(101)))),
		of(message(request, 2, want(at(100)), server(at(1)))),
		of(client(message(request, 2, server(at(2))), at(101))),
		of(client(message(request, 2), at(101))),
		of(message(decline, 1, want(at(100)))),
		of(message(decline, 2, want(at(101)))),
		of(client(message(release, 1), at(100))),
		of(client(message(inform, 2), at(101))),
		func(t *testing.T, b *both, now int64) { b.tick(t, now) },
		func(t *testing.T, b *both, now int64) { b.holds(t, at(100), now) },
		func(t *testing.T, b *both, now int64) { b.holds(t, at(9), now) },
	}
	c := changed(func(c *conf.Conf) { c.Last, c.Time = at(101), 60 })
	const length = 4
	rows := 1
	for range length {
		rows *= len(kinds)
	}
	for row := range rows {
		b := newBoth(t, c)
		for rest, i := row, 0; i < length; rest, i = rest/len(kinds), i+1 {
			kinds[rest%len(kinds)](t, b, int64(30*i))
		}
		b.all(t, -1)
		b.all(t, 90)
		b.tick(t, 120)
		b.get(t, message(discover, 3), 630)
	}
}
