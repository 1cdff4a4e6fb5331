package ports_test

import (
	"cmp"
	"math"
	"slices"
	"testing"

	"gatehouse/api"
	"gatehouse/ports"
)

// plain is the word of the chapter: all mappings that were not removed stand in one
// list, in the order in which they came, and each rule is asked of all of them.
type plain struct {
	low, room int
	greatest  int64
	list      []*ports.Map
}

func (p *plain) at(now int64) int64 {
	if now >= 0 && now <= 1<<40 {
		p.greatest = max(p.greatest, now)
	}
	return p.greatest
}

func (p *plain) isLive(m *ports.Map) bool { return m.Kind == 4 || p.greatest < m.Until }

// live returns the live mappings that are so, ordered by Proto and then Out.
func (p *plain) live(so func(m *ports.Map) bool) []*ports.Map {
	return p.sorted(func(m *ports.Map) bool { return p.isLive(m) && so(m) })
}

func (p *plain) sorted(so func(m *ports.Map) bool) []*ports.Map {
	var l []*ports.Map
	for _, m := range p.list {
		if so(m) {
			l = append(l, m)
		}
	}
	slices.SortFunc(l, func(m, n *ports.Map) int { return cmp.Compare(m.Proto<<20+m.Out, n.Proto<<20+n.Out) })
	return l
}

func all(*ports.Map) bool { return true }

func (p *plain) has(proto, out int) []*ports.Map {
	return p.live(func(m *ports.Map) bool { return m.Proto == proto && m.Out == out })
}

func (p *plain) remove(so func(m *ports.Map) bool) int {
	before := len(p.list)
	p.list = slices.DeleteFunc(p.list, so)
	return before - len(p.list)
}

func (p *plain) add(m ports.Map) {
	p.remove(func(n *ports.Map) bool { return n.Proto == m.Proto && n.Out == m.Out && !p.isLive(n) })
	p.list = append(p.list, &m)
}

func isProto(n int) bool { return n == 1 || n == 6 || n == 17 }

func isPort(proto, n int) bool { return n <= 65535 && (n >= 1 || n == 0 && proto == 1) }

func (p *plain) put(m ports.Map, now int64) api.Errno {
	now = p.at(now)
	live := p.has(m.Proto, m.Out)
	switch {
	case !isProto(m.Proto), !isPort(m.Proto, m.Out), !isPort(m.Proto, m.In), m.Kind != 2 && m.Kind != 3 && m.Kind != 4:
		return api.EARG
	case m.Kind == 4 && m.Until != 0, m.Kind != 4 && m.Until <= now:
		return api.EARG
	case len(live) > 0 && (live[0].Kind != m.Kind || live[0].Addr != m.Addr || live[0].In != m.In):
		return api.ETAKEN
	case len(live) == 0 && len(p.live(all)) == p.room:
		return api.EFULL
	case len(live) > 0:
		live[0].Until = m.Until
	default:
		p.add(m)
	}
	return api.OK
}

func (p *plain) out(f api.Flow, now int64) *ports.Map {
	p.at(now)
	for _, kind := range []int{4, 1, 2, 3} {
		l := p.live(func(m *ports.Map) bool {
			return m.Kind == kind && m.Proto == f.Proto && m.Addr == f.Addr && m.In == f.Port
		})
		if len(l) > 0 {
			return l[0]
		}
	}
	return nil
}

func (p *plain) make(f api.Flow, now, secs int64) (ports.Map, api.Errno) {
	now = p.at(now)
	if !isProto(f.Proto) || !isPort(f.Proto, f.Port) || secs < 1 || secs > 1e9 {
		return ports.Map{}, api.EARG
	}
	if m := p.out(f, now); m != nil {
		if m.Kind == 1 {
			m.Until = now + secs
		}
		return *m, api.OK
	}
	if len(p.live(all)) == p.room {
		return ports.Map{}, api.EFULL
	}
	out := f.Port
	if out < p.low || len(p.has(f.Proto, out)) > 0 {
		for out = p.low; len(p.has(f.Proto, out)) > 0; {
			out++
		}
	}
	m := ports.Map{Proto: f.Proto, Out: out, Addr: f.Addr, In: f.Port, Kind: 1, Until: now + secs}
	p.add(m)
	return m, api.OK
}

func (p *plain) in(proto, out int, now int64) *ports.Map {
	p.at(now)
	if l := p.has(proto, out); len(l) > 0 {
		return l[0]
	}
	return nil
}

func (p *plain) longer(proto, out int, now, secs int64) bool {
	m := p.in(proto, out, now)
	if m == nil || m.Kind != 1 || secs < 1 || secs > 1e9 || p.at(now)+secs <= m.Until {
		return false
	}
	m.Until = p.at(now) + secs
	return true
}

func (p *plain) drop(proto, out, kind int) bool {
	return p.remove(func(m *ports.Map) bool { return m.Proto == proto && m.Out == out && m.Kind == kind }) > 0
}

func (p *plain) tick(now int64) []ports.Map {
	p.at(now)
	l := values(p.sorted(func(m *ports.Map) bool { return !p.isLive(m) }))
	p.remove(func(m *ports.Map) bool { return !p.isLive(m) })
	return l
}

func values(l []*ports.Map) []ports.Map {
	var v []ports.Map
	for _, m := range l {
		v = append(v, *m)
	}
	return v
}

// both is a table and its model, with what was called so far.
type both struct {
	table *ports.Table
	plain *plain
	calls []record
}

type record struct {
	name    string
	numbers [6]int64
}

func newBoth(t *testing.T, low, room int) *both {
	t.Helper()
	b := &both{table: made(t, low, room), plain: &plain{low: low, room: room}}
	b.called("New", low, room, 0, 0, 0, 0)
	return b
}

func (b *both) called(name string, proto, out, n, in int, now, secs int64) {
	b.calls = append(b.calls, record{name, [6]int64{int64(proto), int64(out), int64(n), int64(in), now, secs}})
}

func (b *both) check(t *testing.T, same bool, got, want any) {
	t.Helper()
	if !same {
		t.Fatalf("P17.1: %v instead of %v after %v", got, want, b.calls)
	}
}

func (b *both) put(t *testing.T, m ports.Map, n int, now int64) {
	t.Helper()
	b.called("Put", m.Proto, m.Out, n, m.In, now, m.Until*10+int64(m.Kind))
	e, plainE := b.table.Put(m, now), b.plain.put(m, now)
	b.check(t, e == plainE, e, plainE)
}

func (b *both) make(t *testing.T, proto, n, port int, now, secs int64) {
	t.Helper()
	b.called("Make", proto, 0, n, port, now, secs)
	m, e := b.table.Make(flow(proto, n, port), now, secs)
	plainM, plainE := b.plain.make(flow(proto, n, port), now, secs)
	b.check(t, m == plainM && e == plainE, []any{m, e}, []any{plainM, plainE})
}

func (b *both) checkFound(t *testing.T, m ports.Map, ok bool, plainM *ports.Map) {
	t.Helper()
	if plainM == nil {
		b.check(t, !ok && m == ports.Map{}, m, "none")
		return
	}
	b.check(t, ok && m == *plainM, m, *plainM)
}

func (b *both) out(t *testing.T, proto, n, port int, now int64) {
	t.Helper()
	b.called("Out", proto, 0, n, port, now, 0)
	m, ok := b.table.Out(flow(proto, n, port), now)
	b.checkFound(t, m, ok, b.plain.out(flow(proto, n, port), now))
}

func (b *both) in(t *testing.T, proto, out int, now int64) {
	t.Helper()
	b.called("In", proto, out, 0, 0, now, 0)
	m, ok := b.table.In(proto, out, now)
	b.checkFound(t, m, ok, b.plain.in(proto, out, now))
}

func (b *both) longer(t *testing.T, proto, out int, now, secs int64) {
	t.Helper()
	b.called("Live", proto, out, 0, 0, now, secs)
	ok, plainOk := b.table.Live(proto, out, now, secs), b.plain.longer(proto, out, now, secs)
	b.check(t, ok == plainOk, ok, plainOk)
}

func (b *both) drop(t *testing.T, proto, out, kind int) {
	t.Helper()
	b.called("Drop", proto, out, kind, 0, 0, 0)
	ok, plainOk := b.table.Drop(proto, out, kind), b.plain.drop(proto, out, kind)
	b.check(t, ok == plainOk, ok, plainOk)
}

func (b *both) purge(t *testing.T, n, keep int) {
	t.Helper()
	b.called("Purge", 0, 0, n, keep, 0, 0)
	count := b.table.Purge(host(n), keep)
	plainCount := b.plain.remove(func(m *ports.Map) bool { return m.Addr == host(n) && m.Kind != keep })
	b.check(t, count == plainCount, count, plainCount)
}

func (b *both) clear(t *testing.T, kind int) {
	t.Helper()
	b.called("Clear", kind, 0, 0, 0, 0, 0)
	count, plainCount := b.table.Clear(kind), b.plain.remove(func(m *ports.Map) bool { return m.Kind == kind })
	b.check(t, count == plainCount, count, plainCount)
}

func (b *both) tick(t *testing.T, now int64) {
	t.Helper()
	b.called("Tick", 0, 0, 0, 0, now, 0)
	l, plainL := b.table.Tick(now), b.plain.tick(now)
	b.check(t, slices.Equal(l, plainL), l, plainL)
}

// all also holds what the mappings must be against each other: no two have a port,
// and no two that were made for flows have a flow in common, and none is too many.
func (b *both) all(t *testing.T, now int64) {
	t.Helper()
	b.called("Len, All", 0, 0, 0, 0, now, 0)
	n := b.table.Len(now)
	l := b.table.All(now)
	b.plain.at(now)
	plainL := values(b.plain.live(all))
	b.check(t, n == len(plainL) && slices.Equal(l, plainL), l, plainL)
	outs, flows := map[[2]int]int{}, map[api.Flow]int{}
	for _, m := range l {
		f := api.Flow{Proto: m.Proto, Addr: m.Addr, Port: m.In}
		outs[[2]int{m.Proto, m.Out}]++
		if m.Kind == 1 {
			flows[f]++
		}
		if outs[[2]int{m.Proto, m.Out}] > 1 || flows[f] > 1 {
			t.Errorf("P17.1, T3: two of a port or a flow in %v", l)
		}
	}
	if len(l) > b.plain.room {
		t.Errorf("P17.1, T3: %d with room %d", len(l), b.plain.room)
	}
}

// dice is a row of numbers that is the same in each run.
type dice uint64

func (d *dice) roll(n int) int {
	*d = *d*6364136223846793005 + 1442695040888963407
	return int(uint64(*d)>>33) % n
}

// oddTime returns a time that is out of range, or one that goes back.
func (d *dice) oddTime(now int64) int64 {
	odd := []int64{-1, math.MinInt64, api.MaxTime + 1, math.MaxInt64, now - 1, now - 20, now / 2, 0}
	return odd[d.roll(len(odd))]
}

func (d *dice) secs() int64 {
	if d.roll(20) > 0 {
		return int64(1 + d.roll(15))
	}
	odd := []int64{0, -1, 1_000_000_000, 1_000_000_001, math.MaxInt64, math.MinInt64, 100}
	return odd[d.roll(len(odd))]
}

func (d *dice) proto() int {
	if d.roll(50) > 0 {
		return protos[d.roll(3)]
	}
	return wrongProtos[d.roll(len(wrongProtos))]
}

// port returns one of a few ports about low.
func (d *dice) port(low, few int) int {
	if d.roll(60) == 0 {
		return wrongPorts[d.roll(len(wrongPorts))]
	}
	if d.roll(40) == 0 {
		return []int{0, 1, 1023, 65535, 60000}[d.roll(5)]
	}
	return low - few/3 + d.roll(few)
}

// kind returns a kind, of which others than the four are rare.
func (d *dice) kind() int {
	if d.roll(40) == 0 {
		return d.roll(8) - 1
	}
	return 1 + d.roll(4)
}

// someMap returns one that Put accepts but for rare faults. Half of them are for the
// port or the flow of a live one.
func (d *dice) someMap(b *both, hosts, few int) (ports.Map, int) {
	n, low := 5+d.roll(hosts), b.plain.low
	m := kind(2+d.roll(3), d.proto(), d.port(low, few), n, d.port(low, few), b.plain.greatest+d.secs()%2_000_000_000)
	if len(b.plain.list) > 0 && d.roll(2) == 0 {
		old := *b.plain.list[d.roll(len(b.plain.list))]
		switch d.roll(3) {
		case 0:
			m.Proto, m.Out = old.Proto, old.Out
		case 1:
			m.Proto, m.Addr, m.In = old.Proto, old.Addr, old.In
		default:
			m.Proto, m.Out, m.Addr, m.In, m.Kind = old.Proto, old.Out, old.Addr, old.In, old.Kind
		}
	}
	if d.roll(50) == 0 {
		m.Kind = d.kind()
	}
	if m.Kind == 4 && d.roll(20) > 0 {
		m.Until = 0
	}
	return m, n
}

// step makes a call of some kind for one of so many hosts and one of a few ports.
func (b *both) step(t *testing.T, d *dice, hosts, few int, now int64) {
	t.Helper()
	n, low := 5+d.roll(hosts), b.plain.low
	switch call := d.roll(100); {
	case call < 28:
		b.make(t, d.proto(), n, d.port(low, few), now, d.secs())
	case call < 46:
		m, n := d.someMap(b, hosts, few)
		b.put(t, m, n, now)
	case call < 56:
		b.out(t, d.proto(), n, d.port(low, few), now)
	case call < 64:
		b.in(t, d.proto(), d.port(low, few), now)
	case call < 74:
		b.longer(t, d.proto(), d.port(low, few), now, d.secs())
	case call < 82:
		b.drop(t, d.proto(), d.port(low, few), d.kind())
	case call < 84:
		b.purge(t, n, d.kind())
	case call < 86:
		b.clear(t, d.kind())
	case call < 90:
		b.tick(t, now)
	default:
		b.all(t, now)
	}
}

// TestAgainstTheWords has long rows of calls for tables of several rooms, with few
// ports and with many, in which time stands, goes on, leaps and is odd.
func TestAgainstTheWords(t *testing.T) {
	for seed := range 300 {
		d := dice(seed)
		rooms, lows := []int{1, 2, 3, 5, 8, 20, 128}, []int{1024, 1025, 40000, 59999, 60000}
		room := rooms[seed%len(rooms)]
		b := newBoth(t, lows[seed%len(lows)], room)
		hosts, few := 1+d.roll(4), 2+d.roll(2*room+4)
		now := int64(d.roll(3))
		for range 500 {
			told := now
			switch d.roll(60) {
			case 0, 1, 2, 3, 4, 5:
				now++
				told = now
			case 6:
				now += int64(d.roll(12))
				told = now
			case 7:
				told = d.oddTime(now)
			}
			b.step(t, &d, hosts, few, told)
		}
		b.all(t, -1)
		b.tick(t, -1)
		b.tick(t, now+20)
		b.all(t, -1)
	}
}

// TestAllShortRows has all rows of four calls of eighteen kinds, in a table for two,
// with two ports and two flows.
func TestAllShortRows(t *testing.T) {
	const low = 2000
	kinds := []func(t *testing.T, b *both, now int64){
		func(t *testing.T, b *both, now int64) { b.make(t, udp, 5, low, now, 2) },
		func(t *testing.T, b *both, now int64) { b.make(t, udp, 5, low+1, now, 3) },
		func(t *testing.T, b *both, now int64) { b.make(t, udp, 6, low, now+1, 1) },
		func(t *testing.T, b *both, now int64) { b.put(t, kind(2, udp, low, 5, low, now+2), 5, now) },
		func(t *testing.T, b *both, now int64) { b.put(t, kind(2, udp, low+1, 5, low, now+3), 5, now+1) },
		func(t *testing.T, b *both, now int64) { b.put(t, kind(3, udp, low, 6, low+1, now+2), 6, now) },
		func(t *testing.T, b *both, now int64) { b.put(t, kind(3, udp, low, 5, low, now+1), 5, now) },
		func(t *testing.T, b *both, now int64) { b.put(t, kind(4, udp, low+1, 5, low, 0), 5, now) },
		func(t *testing.T, b *both, now int64) { b.put(t, kind(4, tcp, low, 5, low, 0), 5, now) },
		func(t *testing.T, b *both, now int64) { b.longer(t, udp, low, now, 3) },
		func(t *testing.T, b *both, now int64) { b.longer(t, udp, low+1, now+2, 2) },
		func(t *testing.T, b *both, now int64) { b.drop(t, udp, low, 1) },
		func(t *testing.T, b *both, now int64) { b.drop(t, udp, low, 2) },
		func(t *testing.T, b *both, now int64) { b.purge(t, 5, 4) },
		func(t *testing.T, b *both, now int64) { b.clear(t, 1) },
		func(t *testing.T, b *both, now int64) { b.tick(t, now+1) },
		func(t *testing.T, b *both, now int64) { b.tick(t, now-1) },
		func(t *testing.T, b *both, now int64) { b.all(t, now+1) },
	}
	const length = 4
	rows := 1
	for range length {
		rows *= len(kinds)
	}
	for row := range rows {
		b := newBoth(t, low, 2)
		for rest, i := row, 0; i < length; rest, i = rest/len(kinds), i+1 {
			kinds[rest%len(kinds)](t, b, b.plain.greatest)
		}
		b.out(t, udp, 5, low, -1)
		b.out(t, udp, 6, low, -1)
		b.in(t, udp, low, -1)
		b.in(t, udp, low+1, -1)
		b.all(t, -1)
		b.tick(t, -1)
		b.make(t, udp, 7, low, -1, 5)
		b.tick(t, b.plain.greatest+9)
	}
}
