package nat_test

import (
	"math"
	"reflect"
	"slices"
	"testing"

	"gatehouse/api"
	"gatehouse/icmp"
	"gatehouse/ip4"
	"gatehouse/ports"
)

// accepted are packets of all kinds that the gateway of asked lets through.
func accepted() []struct {
	way
	packet ip4.Packet
} {
	var l []struct {
		way
		packet ip4.Packet
	}
	add := func(w way, p ip4.Packet) {
		l = append(l, struct {
			way
			packet ip4.Packet
		}{w, p})
	}
	for _, c := range protocols {
		add(out(), sent(c.proto, host(5), 5000, peer(1)))
		add(in(), answer(c.proto, peer(1), wan(), low))
		add(out(), fault(host(5), router(), 3, come(c.proto, host(5), 5000).bytes()))
		add(in(), fault(router(), wan(), 3, gone(c.proto, wan(), low).bytes()))
	}
	return l
}

// roomier returns b as the beginning of a longer list, which it returns, too.
func roomier(b []byte) (short, long []byte) {
	long = append(slices.Clone(b), "spare bytes"...)
	return long[:len(b)], long
}

// TestArgumentsStay has packets with lists of spare capacity: they are the same after
// the call, and written over afterwards, the result is the same.
func TestArgumentsStay(t *testing.T) {
	for _, x := range accepted() {
		for _, wrong := range []bool{false, true} {
			g := asked(t)
			p := x.packet
			if wrong {
				p = flipped(p, 8*len(p.Body)-1)
			}
			var body, opts []byte
			p.Body, body = roomier(p.Body)
			p.Opts, opts = roomier(p.Opts)
			bodyBefore, optsBefore := slices.Clone(body), slices.Clone(opts)
			q, e := x.call(g, p, 0)
			if (e == api.OK) == wrong {
				t.Fatalf("%s of %+v: %d", x.name, p, e)
			}
			if !slices.Equal(body, bodyBefore) || !slices.Equal(opts, optsBefore) {
				t.Errorf("R4: %s changes its argument to %x, %x", x.name, body, opts)
			}
			before := q
			before.Body, before.Opts = slices.Clone(q.Body), slices.Clone(q.Opts)
			clear(body)
			clear(opts)
			if !same(q, before) {
				t.Errorf("R4: the result of %s shares memory with the argument", x.name)
			}
		}
	}
}

// filled writes over a list with its spare capacity.
func filled(b []byte) {
	b = b[:cap(b)]
	for i := range b {
		b[i] = 0xee
	}
}

// TestResultsAreApart has results that are written over, each list by itself: neither
// the other one nor an earlier or later result changes.
func TestResultsAreApart(t *testing.T) {
	for _, x := range accepted() {
		g := asked(t)
		first, _ := x.call(g, x.packet, 0)
		second, _ := x.call(g, x.packet, 0)
		want := first
		want.Body, want.Opts = slices.Clone(first.Body), slices.Clone(first.Opts)
		filled(second.Opts)
		if !slices.Equal(second.Body, want.Body) {
			t.Errorf("R4: the lists of the result of %s share memory", x.name)
		}
		filled(second.Body)
		if !same(first, want) {
			t.Errorf("R4: two results of %s share memory", x.name)
		}
		checkGives(t, x.way, g, x.packet, 0, want)
	}
}

// TestNilIsEmpty has packets without Opts in both ways, and ones without a Body.
func TestNilIsEmpty(t *testing.T) {
	for _, x := range accepted() {
		var results []ip4.Packet
		for _, none := range [][]byte{nil, {}, make([]byte, 0, 9)} {
			p := x.packet
			p.Opts = none
			q, e := x.call(asked(t), p, 0)
			if e != api.OK || len(q.Opts) != 0 {
				t.Errorf("R4: %s without Opts: %+v, %d", x.name, q, e)
			}
			results = append(results, q)
			p.Body = none
			checkRefuses(t, x.way, asked(t), p, 0, api.ESHORT)
		}
		if !same(results[0], results[1]) || !same(results[1], results[2]) {
			t.Errorf("R4: %s of nil and of an empty list: %+v", x.name, results)
		}
	}
}

// TestErrorsAreBare has an error of each kind: the packet beside it is the zero value.
func TestErrorsAreBare(t *testing.T) {
	g := asked(t)
	part := datagram(host(5), 5000, peer(1), far)
	part.Flags = 1
	for _, p := range []ip4.Packet{
		part, {Proto: 2}, {Proto: api.UDP}, datagram(host(5), 0, peer(1), far), flipped(datagram(host(5), 5, peer(1), far), 99),
		tooLong(datagram(host(5), 5000, peer(1), far), 2000), fault(host(5), peer(1), 3, nil), typed(host(5), peer(1), 5, 0),
		fault(host(5), peer(1), 3, come(api.UDP, host(5), 1).bytes()), fault(host(5), peer(1), 3, come(api.UDP, host(6), 5000).bytes()),
	} {
		if q, e := g.Out(p, wan(), 0); e == api.OK || !reflect.DeepEqual(q, ip4.Packet{}) {
			t.Errorf("R2: Out of %+v: %+v, %d", p, q, e)
		}
		p.To = wan()
		if q, e := g.In(p, wan(), 0); e == api.OK || !reflect.DeepEqual(q, ip4.Packet{}) {
			t.Errorf("R2: In of %+v: %+v, %d", p, q, e)
		}
	}
}

// counting are packets that reach the table of mappings, so that their times count,
// also if nothing is found or changed, and others that are refused sooner.
func counting() []struct {
	way
	packet ip4.Packet
	counts bool
} {
	type row = struct {
		way
		packet ip4.Packet
		counts bool
	}
	var l []row
	for _, x := range accepted() {
		part := x.packet
		part.Part = 1
		other := x.packet
		other.Proto = 50
		l = append(l, row{x.way, x.packet, true}, row{x.way, flipped(x.packet, 0), false}, row{x.way, part, false}, row{x.way, other, false})
	}
	for _, c := range protocols {
		l = append(l, row{in(), answer(c.proto, peer(1), wan(), 9), true}, row{in(), answer(c.proto, peer(1), host(5), low), false})
		l = append(l, row{in(), fault(router(), wan(), 3, gone(c.proto, wan(), 9).bytes()), true})
		l = append(l, row{out(), fault(host(5), router(), 3, come(c.proto, host(5), 9).bytes()), true})
		l = append(l, row{in(), fault(router(), wan(), 3, gone(c.proto, host(5), low).bytes()), false})
		l = append(l, row{out(), fault(host(5), router(), 3, come(c.proto, wan(), 5000).bytes()), false})
		l = append(l, row{out(), fault(host(5), router(), 3, nil), false}, row{out(), typed(host(5), peer(1), 5, 0), false})
	}
	return append(l, row{out(), datagram(host(5), 0, peer(1), far), false}, row{out(), segment(host(5), 0, peer(1), far, syn), false})
}

// TestTimesCount has packets at times at which a mapping ends, and just before: after
// those that count, a packet to that mapping at 0 is too late.
func TestTimesCount(t *testing.T) {
	for _, x := range counting() {
		for _, now := range []int64{99, 100, 5000} {
			g := asked(t)
			g.put(t, ports.Map{Proto: api.UDP, Out: 77, Addr: host(5), In: 7, Kind: pmp, Until: 100})
			x.call(g, x.packet, now)
			_, e := g.In(datagram(peer(1), far, wan(), 77), wan(), 0)
			if over := x.counts && now >= 100; (e == api.ENONE) != over {
				t.Errorf("%s of %+v at %d, and then a packet at 0: %d", x.name, x.packet, now, e)
			}
		}
	}
}

// TestOddTimes has times that go back or are out of range: they count as the greatest
// one so far.
func TestOddTimes(t *testing.T) {
	for _, odd := range []int64{99, 1, 0, -1, -100, math.MinInt64, api.MaxTime + 1, math.MaxInt64} {
		for _, c := range protocols {
			g := made(t, roomy, usual())
			checkGives(t, out(), g, sent(c.proto, host(5), 5000, peer(1)), 100, sent(c.proto, wan(), low, peer(1)))
			checkGives(t, in(), g, answer(c.proto, peer(1), wan(), low), odd, answer(c.proto, peer(1), host(5), 5000))
			checkUntil(t, g, c.proto, low, odd, 100+c.secs)
			checkGives(t, out(), g, sent(c.proto, host(5), 5000, peer(1)), odd, sent(c.proto, wan(), low, peer(1)))
			checkUntil(t, g, c.proto, low, odd, 100+c.secs)
			checkGives(t, out(), g, sent(c.proto, host(6), 5000, peer(1)), odd, sent(c.proto, wan(), low+1, peer(1)))
			checkUntil(t, g, c.proto, low+1, odd, 100+c.secs)
		}
	}
	for _, c := range protocols {
		g := made(t, roomy, usual())
		checkGives(t, out(), g, sent(c.proto, host(5), 5000, peer(1)), api.MaxTime, sent(c.proto, wan(), low, peer(1)))
		checkGives(t, in(), g, answer(c.proto, peer(1), wan(), low), math.MaxInt64, answer(c.proto, peer(1), host(5), 5000))
		checkUntil(t, g, c.proto, low, api.MaxTime, api.MaxTime+c.secs)
	}
}

// TestSameCallsSameResults has the same packets for two Nats, between which calls of
// another one stand.
func TestSameCallsSameResults(t *testing.T) {
	results := func(between func()) []any {
		var l []any
		d := dice(9)
		b := newBoth(t, 4, usual())
		for now := range int64(500) {
			p := d.packet(d.mapping(b.check(t, now)), now%2 == 0)
			q, e := b.pass(t, now%2 == 0, p, wan(), now)
			l = append(l, q, e, b.maps.All(now))
			between()
		}
		return l
	}
	other := made(t, 4, usual())
	n := 0
	busy := func() {
		n++
		other.Out(segment(host(5), 5000+n, peer(1), far, syn), wan(), int64(n))
		other.Forget(low)
	}
	if !reflect.DeepEqual(results(func() {}), results(busy)) {
		t.Errorf("R5: other results of the same calls")
	}
}

// TestAllArguments has odd values in all fields and random bytes: each call ends
// without panic.
func TestAllArguments(t *testing.T) {
	d := dice(3)
	odd := []int{math.MinInt, math.MinInt32, -1, 0, 1, 2, 3, 6, 17, 255, 8191, 65535, math.MaxInt32, math.MaxInt}
	g := made(t, 5, usual())
	for n := range 60000 {
		p := ip4.Packet{Tos: pick(&d, odd...), ID: pick(&d, odd...), Ttl: pick(&d, odd...), From: host(5), To: wan(), Opts: d.bytes(d.roll(50))}
		p.Proto = pick(&d, append(odd, 1, 6, 17, 1, 6, 17)...)
		if n%5 == 0 {
			p.Flags, p.Part = pick(&d, odd...), pick(&d, odd...)
		}
		p.Body = d.bytes(d.roll(80))
		if n%2 == 0 && len(p.Body) > 40 {
			p = odder(&d, p)
		}
		now := int64(pick(&d, odd...))
		for _, w := range []way{out(), in()} {
			if q, e := w.call(g, p, now); e != api.OK && !empty(q) {
				t.Errorf("R2: %s of %+v: %+v, %d", w.name, p, q, e)
			}
		}
		g.Forget(pick(&d, odd...))
	}
	if g.maps.Len(0) > 5 {
		t.Errorf("T3: %d mappings", g.maps.Len(0))
	}
}

// odder returns p with a body that Get mostly accepts, of random bytes behind.
func odder(d *dice, p ip4.Packet) ip4.Packet {
	switch p.Proto {
	case api.UDP, api.TCP:
		if p.Proto == api.TCP {
			p.Body[12] = byte(d.roll(12) << 4)
		}
		return tooLong(p, len(p.Body))
	case api.ICMP:
		b := p.Body[8:]
		b[0] = byte(0x44 + d.roll(4))
		a := wan()
		copy(b[12:], a[:])
		copy(b, summed(b[:20]))
		return message(p.From, p.To, icmp.Message{Type: pick(d, 0, 3, 8, 11, 12), Body: b})
	}
	return p
}
