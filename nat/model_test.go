package nat_test

import (
	"encoding/binary"
	"math"
	"slices"
	"testing"

	"gatehouse/api"
	"gatehouse/ip4"
	"gatehouse/nat"
	"gatehouse/ports"
	"gatehouse/tcp"
	"gatehouse/track"
)

// plain is the word of the chapter: it writes addresses, ports and checksums over
// those of the bytes that it was given.
type plain struct {
	maps  *ports.Table
	talks *track.Table
	times nat.Times
}

func newPlain(t *testing.T, room int, x nat.Times) *plain {
	t.Helper()
	maps, e := ports.New(low, room)
	talks, f := track.New(128)
	if e != api.OK || f != api.OK {
		t.Fatalf("ports.New: %d, track.New: %d", e, f)
	}
	return &plain{maps, talks, x}
}

func be(b []byte, at int) int { return int(binary.BigEndian.Uint16(b[at:])) }

func write(b []byte, at, v int) { binary.BigEndian.PutUint16(b[at:], uint16(v)) }

// sumAgain writes the checksum at at, which counts ahead too.
func sumAgain(b []byte, at int, ahead []byte) int {
	write(b, at, 0)
	sum := sumOf(append(slices.Clone(ahead), b...))
	write(b, at, sum)
	return sum
}

// finish writes the checksum of the body of p, if it is not too long.
func finish(p ip4.Packet) (ip4.Packet, api.Errno) {
	size := len(p.Body)
	if size > 1480 {
		return ip4.Packet{}, api.ELIMIT
	}
	ahead := slices.Concat(p.From[:], p.To[:], []byte{0, byte(p.Proto), byte(size >> 8), byte(size)})
	switch p.Proto {
	case api.UDP:
		if sumAgain(p.Body, 6, ahead) == 0 {
			write(p.Body, 6, 65535)
		}
	case api.TCP:
		sumAgain(p.Body, 16, ahead)
	default:
		sumAgain(p.Body, 2, nil)
	}
	return p, api.OK
}

// copied returns p with bytes of its own, without those that Get passes over.
func copied(p ip4.Packet) ip4.Packet {
	p.Body, p.Opts = slices.Clone(p.Body), slices.Clone(p.Opts)
	switch p.Proto {
	case api.UDP:
		p.Body = p.Body[:be(p.Body, 4)]
	case api.TCP:
		p.Body[12] &= 0xf0
		p.Body[13] &= 0x3f
	}
	return p
}

// refusal returns the first errors of both ways.
func refusal(p ip4.Packet) api.Errno {
	if p.Part != 0 || p.Flags&1 == 1 {
		return api.EFRAG
	}
	if p.Proto != api.UDP && p.Proto != api.TCP && p.Proto != api.ICMP {
		return api.EDENY
	}
	return errorOfGet(p)
}

func flags(p ip4.Packet) tcp.Segment { return tcp.Segment{Flags: int(p.Body[13])} }

func (m *plain) out(p ip4.Packet, own api.Addr, now int64) (ip4.Packet, api.Errno) {
	if e := refusal(p); e != api.OK {
		return ip4.Packet{}, e
	}
	if p.Proto == api.ICMP && isFault(p.Body) {
		return m.faultOut(p, own, now)
	}
	f := api.Flow{Proto: p.Proto, Addr: p.From}
	at, secs := 0, m.times.Udp
	switch p.Proto {
	case api.TCP:
		secs = min(m.times.Tcp, 10)
	case api.ICMP:
		at, secs = 4, m.times.Icmp
		if !isQuery(p.Body) {
			return ip4.Packet{}, api.EDENY
		}
	}
	f.Port = be(p.Body, at)
	if f.Port == 0 && p.Proto != api.ICMP {
		return ip4.Packet{}, api.EARG
	}
	x, e := m.maps.Make(f, now, int64(secs))
	if e != api.OK {
		return ip4.Packet{}, e
	}
	if p.Proto == api.TCP {
		state := m.talks.See(x.Out, p.To, be(p.Body, 2), false, flags(p))
		m.maps.Live(api.TCP, x.Out, now, track.Secs(state, m.times.Tcp))
	}
	q := copied(p)
	q.From = own
	write(q.Body, at, x.Out)
	return finish(q)
}

func (m *plain) in(p ip4.Packet, own api.Addr, now int64) (ip4.Packet, api.Errno) {
	if p.To != own {
		return ip4.Packet{}, api.EDENY
	}
	if e := refusal(p); e != api.OK {
		return ip4.Packet{}, e
	}
	if p.Proto == api.ICMP && isFault(p.Body) {
		return m.faultIn(p, own, now)
	}
	at, secs := 2, int64(m.times.Udp)
	if p.Proto == api.ICMP {
		at, secs = 4, int64(m.times.Icmp)
		if !isQuery(p.Body) {
			return ip4.Packet{}, api.EDENY
		}
	}
	port := be(p.Body, at)
	x, ok := m.maps.In(p.Proto, port, now)
	if !ok {
		return ip4.Packet{}, api.ENONE
	}
	if p.Proto == api.TCP {
		state := m.talks.See(port, p.From, be(p.Body, 0), true, flags(p))
		secs = track.Secs(state, m.times.Tcp)
	}
	m.maps.Live(p.Proto, port, now, secs)
	q := copied(p)
	q.To = x.Addr
	write(q.Body, at, x.In)
	return finish(q)
}

func isFault(b []byte) bool { return b[0] == 3 || b[0] == 11 || b[0] == 12 }

func isQuery(b []byte) bool { return (b[0] == 0 || b[0] == 8) && b[1] == 0 }

// innerHead returns the length of the header of the inner packet b, or 0 if it has
// none.
func innerHead(b []byte) int {
	if len(b) < 24 || b[0] < 0x45 || b[0] > 0x4f {
		return 0
	}
	n := int(b[0]-0x40) * 4
	if len(b) < n+4 || sumOf(b[:n]) != 0 {
		return 0
	}
	return n
}

// places returns where the end of an inner packet has its address, and where its
// port, or the error of that end.
func places(b []byte, at int, a api.Addr) (int, api.Errno) {
	n := innerHead(b)
	switch {
	case n == 0:
		return 0, api.EFORM
	case api.Addr(b[at:at+4]) != a:
		return 0, api.EDENY
	case b[9] == api.ICMP && len(b) < n+6:
		return 0, api.EFORM
	case b[9] == api.ICMP:
		return n + 4, api.OK
	case b[9] == api.UDP || b[9] == api.TCP:
		return n + (at-12)/2, api.OK
	}
	return 0, api.EDENY
}

func (m *plain) faultOut(p ip4.Packet, own api.Addr, now int64) (ip4.Packet, api.Errno) {
	q := copied(p)
	b := q.Body[8:]
	at, e := places(b, 16, p.From)
	if e != api.OK {
		return ip4.Packet{}, e
	}
	x, ok := m.maps.Out(api.Flow{Proto: int(b[9]), Addr: p.From, Port: be(b, at)}, now)
	if !ok {
		return ip4.Packet{}, api.ENONE
	}
	q.From = own
	copy(b[16:], own[:])
	write(b, at, x.Out)
	sumAgain(b[:innerHead(p.Body[8:])], 10, nil)
	return finish(q)
}

func (m *plain) faultIn(p ip4.Packet, own api.Addr, now int64) (ip4.Packet, api.Errno) {
	q := copied(p)
	b := q.Body[8:]
	at, e := places(b, 12, own)
	if e != api.OK {
		return ip4.Packet{}, e
	}
	x, ok := m.maps.In(int(b[9]), be(b, at), now)
	if !ok {
		return ip4.Packet{}, api.ENONE
	}
	q.To = x.Addr
	copy(b[12:], x.Addr[:])
	write(b, at, x.In)
	sumAgain(b[:innerHead(p.Body[8:])], 10, nil)
	return finish(q)
}

// both is a Nat and its model, with what was called so far.
type both struct {
	gateway
	plain *plain
	calls []any
	seen  map[outcome]int
}

type outcome struct {
	outward bool
	proto   int
	fault   bool
	e       api.Errno
}

func newBoth(t *testing.T, room int, x nat.Times) *both {
	t.Helper()
	return &both{gateway: made(t, room, x), plain: newPlain(t, room, x), calls: []any{room, x}, seen: map[outcome]int{}}
}

// pass has a packet in one of the two directions.
func (b *both) pass(t *testing.T, outward bool, p ip4.Packet, own api.Addr, now int64) (ip4.Packet, api.Errno) {
	t.Helper()
	b.calls = append(b.calls, outward, p, own, now)
	call, model := b.In, b.plain.in
	if outward {
		call, model = b.Out, b.plain.out
	}
	q, e := call(p, own, now)
	want, is := model(p, own, now)
	if e != is || !same(q, want) {
		t.Fatalf("P19.2, P19.3: %+v, %d instead of %+v, %d after %+v", q, e, want, is, b.calls)
	}
	isFault := p.Proto == api.ICMP && len(p.Body) > 0 && isFault(p.Body)
	b.seen[outcome{outward, p.Proto, isFault, e}]++
	return q, e
}

// each calls f with both tables of mappings.
func (b *both) each(name string, f func(x *ports.Table)) {
	b.calls = append(b.calls, name)
	f(b.maps)
	f(b.plain.maps)
}

func (b *both) forget(out int) {
	b.calls = append(b.calls, "Forget", out)
	b.Forget(out)
	b.plain.talks.Forget(out)
}

// check compares all mappings, and returns them.
func (b *both) check(t *testing.T, now int64) []ports.Map {
	t.Helper()
	l, want := b.maps.All(now), b.plain.maps.All(now)
	if !slices.Equal(l, want) {
		t.Fatalf("P19.2, P19.3: the mappings %+v instead of %+v after %+v", l, want, b.calls)
	}
	return l
}

// port returns one of the few of a host, or, seldom, another one.
func (d *dice) port() int {
	if d.roll(20) == 0 {
		return pick(d, 0, 1, 65535, d.roll(65536))
	}
	return pick(d, 5000, 5001, low, low+3)
}

// mapping returns one of those in l, or another one.
func (d *dice) mapping(l []ports.Map) ports.Map {
	if len(l) > 0 && d.roll(6) > 0 {
		return pick(d, l...)
	}
	return ports.Map{Proto: pick(d, api.UDP, api.TCP, api.ICMP), Out: pick(d, low, low+1, 80, d.port()), Addr: d.host(), In: d.port()}
}

func (d *dice) host() api.Addr { return host(5 + d.roll(3)) }

func (d *dice) flags() int {
	if d.roll(5) == 0 {
		return d.roll(64)
	}
	return pick(d, syn, syn, syn|ack, ack, ack, ack|psh, fin|ack, rst)
}

// inner returns the beginning of a packet with the mapping's end of the host, or
// that of the gateway.
func (d *dice) inner(m ports.Map, outward bool) []byte {
	i := gone(m.Proto, wan(), m.Out)
	if outward {
		i = come(m.Proto, m.Addr, m.In)
	}
	i.id, i.total = d.roll(65536), d.roll(65536)
	if d.roll(3) == 0 {
		i.opts = d.bytes(4 * d.roll(11))
	}
	if d.roll(30) == 0 {
		i.proto = d.roll(256)
	}
	i.tail = d.bytes(d.roll(12))
	b := i.bytes()
	if d.roll(10) == 0 {
		b = b[:d.roll(len(b)+1)]
	}
	if len(b) > 0 && d.roll(20) == 0 {
		b[d.roll(len(b))] ^= 1 << d.roll(8)
	}
	return b
}

// packet returns one of any protocol to or from a mapping, which may be one that
// there is not.
func (d *dice) packet(m ports.Map, outward bool) ip4.Packet {
	from, to, fromPort, toPort := peer(d.roll(3)), wan(), far+d.roll(2), m.Out
	if outward {
		from, to, fromPort, toPort = m.Addr, from, m.In, fromPort
	}
	if d.roll(4) == 0 {
		return fault(from, to, pick(d, 3, 11, 12), d.inner(m, outward))
	}
	switch m.Proto {
	case api.UDP:
		return datagram(from, fromPort, to, toPort)
	case api.TCP:
		return segment(from, fromPort, to, toPort, d.flags())
	}
	number := toPort
	if outward {
		number = fromPort
	}
	return query(from, to, 8*d.roll(2), number)
}

// damage changes a packet so that it has a fault, mostly.
func (d *dice) damage(p ip4.Packet) ip4.Packet {
	switch d.roll(9) {
	case 0:
		p.Flags = d.roll(8)
	case 1:
		p.Part = pick(d, 1, 8191)
	case 2:
		p.Proto = pick(d, 0, 2, api.UDP, api.TCP, api.ICMP, 255)
	case 3:
		p.Body = p.Body[:d.roll(len(p.Body)+1)]
	case 4:
		p = flipped(p, d.roll(8*len(p.Body)))
	case 5:
		p.To = d.host()
	case 6:
		p = tooLong(p, 1481+d.roll(1000))
	case 7:
		p.Body = d.bytes(d.roll(40))
	default:
		if p.Proto == api.ICMP {
			p = typed(p.From, p.To, d.roll(20), d.roll(2))
		}
	}
	return p
}

// change changes the mappings as others do.
func (d *dice) change(t *testing.T, b *both, now int64) {
	t.Helper()
	m := d.mapping(b.check(t, now))
	switch d.roll(5) {
	case 0, 1:
		m.Kind, m.Out, m.Until = pick(d, pmp, upnp, static), pick(d, 80, 81, low, low+1, 65535), now+int64(d.roll(300))
		if m.Kind == static {
			m.Until = 0
		}
		b.each("Put", func(x *ports.Table) { x.Put(m, now) })
	case 2:
		b.each("Drop", func(x *ports.Table) { x.Drop(m.Proto, m.Out, m.Kind) })
	case 3:
		b.each("Tick", func(x *ports.Table) { x.Tick(now) })
	default:
		b.forget(m.Out)
	}
}

// TestAgainstTheWords has long rows of packets, with answers to those that went out,
// for tables of several rooms.
func TestAgainstTheWords(t *testing.T) {
	seen := map[outcome]int{}
	rooms := []int{1, 2, 3, 5, 8, 20, 128}
	for seed := range 300 {
		d := dice(seed)
		b := newBoth(t, rooms[seed%len(rooms)], nat.Times{Udp: 10 + d.roll(300), Tcp: pick(&d, 10, 50, 100, 5000, 86400), Icmp: 10 + d.roll(90)})
		b.seen = seen
		now := int64(0)
		for range 300 {
			now += int64(pick(&d, 0, 1, 2, d.roll(20), d.roll(100)))
			at := now
			if d.roll(40) == 0 {
				at = pick(&d, now-1, now-100, -1, math.MinInt64, api.MaxTime+1, math.MaxInt64)
			}
			outward := d.roll(2) == 0
			p := d.packet(d.mapping(b.check(t, now)), outward)
			if d.roll(6) == 0 {
				p = d.damage(p)
			}
			own := wan()
			if d.roll(60) == 0 {
				own = host(77)
			}
			b.pass(t, outward, p, own, at)
			if d.roll(20) == 0 {
				d.change(t, b, now)
			}
			b.check(t, now)
		}
	}
	checkSeen(t, seen)
}

// checkSeen asks for each outcome that there may be.
func checkSeen(t *testing.T, seen map[outcome]int) {
	t.Helper()
	for _, outward := range []bool{false, true} {
		for _, proto := range []int{api.UDP, api.TCP, api.ICMP} {
			l := []api.Errno{api.OK, api.EFRAG, api.ESHORT, api.ESUM, api.ELIMIT}
			if outward {
				l = append(l, api.EFULL)
				if proto != api.ICMP {
					l = append(l, api.EARG)
				}
			} else {
				l = append(l, api.EDENY, api.ENONE)
			}
			for _, e := range l {
				if o := (outcome{outward, proto, false, e}); seen[o] < 10 {
					t.Errorf("only %d times %+v", seen[o], o)
				}
			}
		}
		for _, e := range []api.Errno{api.OK, api.EFRAG, api.ESHORT, api.ESUM, api.ELIMIT, api.EFORM, api.EDENY, api.ENONE} {
			if o := (outcome{outward, api.ICMP, true, e}); seen[o] < 10 {
				t.Errorf("only %d times %+v", seen[o], o)
			}
		}
	}
}

// TestThereAndBack has packets of hosts, and answers and faults about what became of
// them, which come to the same hosts.
func TestThereAndBack(t *testing.T) {
	for seed := range 200 {
		d := dice(seed)
		b := newBoth(t, roomy, usual())
		for now := int64(0); now < 100; now++ {
			m := ports.Map{Proto: pick(&d, api.UDP, api.TCP, api.ICMP), Addr: d.host(), In: 1 + d.roll(65535)}
			p := sent(m.Proto, m.Addr, m.In, peer(d.roll(3)))
			q, e := b.pass(t, true, p, wan(), now)
			if e != api.OK {
				t.Fatalf("P19.2: Out of %+v: %d", p, e)
			}
			port := be(q.Body, 0)
			if m.Proto == api.ICMP {
				port = be(q.Body, 4)
			}
			back, e := b.pass(t, false, answer(m.Proto, p.To, wan(), port), wan(), now)
			if e != api.OK || !same(back, answer(m.Proto, p.To, m.Addr, m.In)) {
				t.Fatalf("P19.3: In of the answer to %+v: %+v, %d", p, back, e)
			}
			at := 8 + 24 // behind the inner header
			if m.Proto == api.ICMP {
				at += 4
			}
			whole, _ := ip4.Put(p)
			quoted, _ := ip4.Put(q)
			back, e = b.pass(t, false, fault(router(), wan(), 11, quoted[:24+8]), wan(), now)
			if e != api.OK || back.To != m.Addr || !slices.Equal(back.Body[8:8+24], whole[:24]) || be(back.Body, at) != m.In {
				t.Fatalf("P19.3: In of a fault about %+v: %+v, %d", q, back, e)
			}
			b.check(t, now)
		}
	}
}
