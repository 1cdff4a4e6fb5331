package nat_test

import (
	"testing"

	"gatehouse/api"
	"gatehouse/icmp"
	"gatehouse/ip4"
	"gatehouse/ports"
	"gatehouse/tcp"
	"gatehouse/udp"
)

// TestOutMakes has all protocols, from ports at all edges: those from low on remain.
func TestOutMakes(t *testing.T) {
	for _, c := range protocols {
		for _, x := range [][2]int{{1, low}, {2, low}, {255, low}, {256, low}, {low - 1, low}, {low, low}, {low + 1, low + 1}, {65534, 65534}, {65535, 65535}} {
			g := made(t, roomy, usual())
			checkGives(t, out(), g, sent(c.proto, host(5), x[0], peer(1)), 10, sent(c.proto, wan(), x[1], peer(1)))
			checkMaps(t, g, 10, ports.Map{Proto: c.proto, Out: x[1], Addr: host(5), In: x[0], Kind: flow, Until: 10 + c.secs})
		}
	}
}

// TestOutFindsAgain has flows that have a mapping, which they keep, with another time.
func TestOutFindsAgain(t *testing.T) {
	for _, c := range protocols {
		g := made(t, 3, usual())
		first := ports.Map{Proto: c.proto, Out: low, Addr: host(5), In: 5000, Kind: flow, Until: c.secs}
		second := ports.Map{Proto: c.proto, Out: low + 1, Addr: host(6), In: 5000, Kind: flow, Until: c.secs + 1}
		third := ports.Map{Proto: c.proto, Out: low + 2, Addr: host(5), In: 5001, Kind: flow, Until: c.secs + 2}
		checkGives(t, out(), g, sent(c.proto, host(5), 5000, peer(1)), 0, sent(c.proto, wan(), low, peer(1)))
		checkGives(t, out(), g, sent(c.proto, host(6), 5000, peer(1)), 1, sent(c.proto, wan(), low+1, peer(1)))
		checkGives(t, out(), g, sent(c.proto, host(5), 5001, peer(2)), 2, sent(c.proto, wan(), low+2, peer(2)))
		checkMaps(t, g, 2, first, second, third)
		checkGives(t, out(), g, sent(c.proto, host(6), 5000, peer(3)), 8, sent(c.proto, wan(), low+1, peer(3)))
		second.Until = c.secs + 8
		checkMaps(t, g, 8, first, second, third)
		for _, p := range []ip4.Packet{sent(c.proto, host(6), 5001, peer(1)), sent(c.proto, host(7), 5000, peer(1))} {
			checkRefuses(t, out(), g, p, 8, api.EFULL)
		}
		checkMaps(t, g, 8, first, second, third)
		checkGives(t, out(), g, sent(c.proto, host(7), 5000, peer(1)), c.secs, sent(c.proto, wan(), low, peer(1)))
	}
}

// TestProtocolsAreApart has the same numbers for all protocols.
func TestProtocolsAreApart(t *testing.T) {
	g := made(t, roomy, usual())
	var all []ports.Map
	for i, proto := range []int{api.ICMP, api.TCP, api.UDP} {
		g.put(t, ports.Map{Proto: proto, Out: 99, Addr: host(i), In: 7, Kind: static})
		all = append(all, ports.Map{Proto: proto, Out: 99, Addr: host(i), In: 7, Kind: static})
	}
	for i, proto := range []int{api.ICMP, api.TCP, api.UDP} {
		checkGives(t, out(), g, sent(proto, host(i), 7, peer(1)), 0, sent(proto, wan(), 99, peer(1)))
		checkGives(t, in(), g, answer(proto, peer(1), wan(), 99), 0, answer(proto, peer(1), host(i), 7))
	}
	checkMaps(t, g, 0, all...)
	g.maps.Clear(static)
	for i, proto := range []int{api.ICMP, api.TCP, api.UDP} {
		g.put(t, all[i])
		for _, c := range protocols {
			if c.proto != proto {
				checkRefuses(t, in(), g, answer(c.proto, peer(1), wan(), 99), 0, api.ENONE)
			}
		}
		g.maps.Clear(static)
	}
}

// kinds are mappings of port 9 of host 5, of which a later one is preferred.
func kinds(proto int) []ports.Map {
	return []ports.Map{
		{Proto: proto, Out: 2000, Addr: host(5), In: 9, Kind: upnp, Until: 500},
		{Proto: proto, Out: 3000, Addr: host(5), In: 9, Kind: pmp, Until: 500},
		{Proto: proto, Out: 4000, Addr: host(5), In: 9, Kind: static},
	}
}

// TestOutPrefers has mappings of several kinds for one flow.
func TestOutPrefers(t *testing.T) {
	for _, c := range protocols {
		g := made(t, roomy, usual())
		maps := kinds(c.proto)
		for _, m := range maps {
			g.put(t, m)
			checkGives(t, out(), g, sent(c.proto, host(5), 9, peer(1)), 0, sent(c.proto, wan(), m.Out, peer(1)))
			checkGives(t, in(), g, answer(c.proto, peer(1), wan(), m.Out), 0, answer(c.proto, peer(1), host(5), 9))
		}
		for _, m := range maps {
			checkGives(t, in(), g, answer(c.proto, peer(1), wan(), m.Out), 1, answer(c.proto, peer(1), host(5), 9))
		}
		checkMaps(t, g, 1, maps...)
	}
}

// TestOutShortens has mappings of flows that others made for a longer time: Out sets
// their time anew.
func TestOutShortens(t *testing.T) {
	for _, c := range protocols {
		g := made(t, roomy, usual())
		g.maps.Make(api.Flow{Proto: c.proto, Addr: host(5), Port: 5000}, 0, 80000)
		checkGives(t, out(), g, sent(c.proto, host(5), 5000, peer(1)), 10, sent(c.proto, wan(), low, peer(1)))
		checkUntil(t, g, c.proto, low, 10, 10+c.secs)
	}
}

// TestOutOfAnyPort has all ports of the host and of the peer, where the host's are
// from 1 on, and all numbers of queries.
func TestOutOfAnyPort(t *testing.T) {
	for port := 0; port <= 65535; port += 1 + port%97 {
		other := 65535 - port
		g := made(t, roomy, usual())
		mapped := max(port, low)
		checkGives(t, out(), g, query(host(5), peer(1), 8, port), 0, query(wan(), peer(1), 8, mapped))
		if port == 0 {
			continue
		}
		checkGives(t, out(), g, datagram(host(5), port, peer(1), other), 0, datagram(wan(), mapped, peer(1), other))
		checkGives(t, out(), g, segment(host(5), port, peer(1), other, ack), 0, segment(wan(), mapped, peer(1), other, ack))
	}
}

// TestNoPort has packets from port 0, for which nothing is done: there is no mapping
// after them, and their times do not count.
func TestNoPort(t *testing.T) {
	g := made(t, 1, usual())
	checkRefuses(t, out(), g, datagram(host(5), 0, peer(1), far), 5, api.EARG)
	checkRefuses(t, out(), g, segment(host(5), 0, peer(1), far, syn), 5, api.EARG)
	checkMaps(t, g, 0)
	checkGives(t, out(), g, query(host(5), peer(1), 8, 0), 0, query(wan(), peer(1), 8, low))
	checkUntil(t, g, api.ICMP, low, 0, icmpSecs)
	checkRefuses(t, out(), g, datagram(host(5), 0, peer(1), far), 5, api.EARG)
	checkRefuses(t, out(), g, segment(host(5), 0, peer(1), far, syn), 5, api.EARG)
	checkGives(t, out(), g, query(host(5), peer(1), 8, 0), 0, query(wan(), peer(1), 8, low))
	checkUntil(t, g, api.ICMP, low, 0, icmpSecs)
}

// TestOutToAnyone has addresses of any kind on all sides: none counts.
func TestOutToAnyone(t *testing.T) {
	odd := []api.Addr{{}, {0, 0, 0, 1}, {10, 0, 0, 5}, wan(), {127, 0, 0, 1}, {224, 0, 0, 1}, {255, 255, 255, 255}}
	for _, from := range odd {
		for _, to := range odd {
			for _, own := range odd {
				for _, c := range protocols {
					g := made(t, roomy, usual())
					p, e := g.Out(sent(c.proto, from, low, to), own, 0)
					if e != api.OK || !same(p, sent(c.proto, own, low, to)) {
						t.Errorf("P19.2: Out from %v to %v by %v: %+v, %d", from, to, own, p, e)
					}
					p, e = g.In(answer(c.proto, to, own, low), own, 0)
					if e != api.OK || !same(p, answer(c.proto, to, from, low)) {
						t.Errorf("P19.3: In from %v to %v by %v: %+v, %d", to, from, own, p, e)
					}
				}
			}
		}
	}
}

// allSent and allAnswers are packets of all protocols, which port low of a host, or of
// the gateway, sends or gets.
func allSent(from, to api.Addr) []ip4.Packet {
	var l []ip4.Packet
	for _, c := range protocols {
		l = append(l, sent(c.proto, from, low, to))
	}
	return l
}

func allAnswers(from, to api.Addr) []ip4.Packet {
	var l []ip4.Packet
	for _, c := range protocols {
		l = append(l, answer(c.proto, from, to, low))
	}
	return l
}

// open returns a gateway in which port low of host 5 is the gateway's, for all
// protocols.
func open(t *testing.T) gateway {
	t.Helper()
	g := made(t, roomy, usual())
	for _, c := range protocols {
		g.put(t, ports.Map{Proto: c.proto, Out: low, Addr: host(5), In: low, Kind: static})
	}
	return g
}

// TestFieldsStay has all values of each field that never changes, also those that no
// packet has room for.
func TestFieldsStay(t *testing.T) {
	g := open(t)
	var changes []func(p *ip4.Packet)
	for v := -1; v <= 256; v++ {
		changes = append(changes, func(p *ip4.Packet) { p.Tos = v }, func(p *ip4.Packet) { p.Ttl = v }, func(p *ip4.Packet) { p.ID = v * 257 })
		changes = append(changes, func(p *ip4.Packet) { p.Flags = v * 2 }, func(p *ip4.Packet) { p.Opts = make([]byte, v+1) })
	}
	changes = append(changes, func(p *ip4.Packet) { p.Opts = nil }, func(p *ip4.Packet) { p.Opts = []byte{1, 2, 3, 4, 5} })
	check := func(w way, p, want ip4.Packet) {
		for _, change := range changes {
			change(&p)
			change(&want)
			checkGives(t, w, g, p, 0, want)
		}
	}
	for _, s := range sides() {
		for i, p := range s.packets {
			check(s.way, p, s.results[i])
		}
	}
}

// side is a way with packets of all protocols, and what the gateway of open makes of
// them.
type side struct {
	way
	packets, results []ip4.Packet
}

func sides() []side {
	return []side{
		{out(), allSent(host(5), peer(1)), allSent(wan(), peer(1))},
		{in(), allAnswers(peer(1), wan()), allAnswers(peer(1), host(5))},
	}
}

// TestFragments has all Flags with Parts: a fragment is refused ahead of all other
// faults but one of In's.
func TestFragments(t *testing.T) {
	g := open(t)
	for _, s := range sides() {
		for _, p := range s.packets {
			for _, part := range []int{0, 1, 2, 255, 8191, -1, 8192} {
				for flags := range 8 {
					p.Part, p.Flags = part, flags
					if part == 0 && flags%2 == 0 {
						if _, e := s.call(g, p, 0); e != api.OK {
							t.Errorf("%s with Flags %d: %d", s.name, flags, e)
						}
						continue
					}
					checkRefuses(t, s.way, g, p, 0, api.EFRAG)
					for _, proto := range []int{-1, 0, 2, 256, p.Proto} {
						q := p
						q.Proto, q.Body = proto, nil
						checkRefuses(t, s.way, g, q, 0, api.EFRAG)
					}
				}
			}
		}
	}
}

// TestOtherProtocols has all numbers that are not of a protocol, with bodies of any
// kind.
func TestOtherProtocols(t *testing.T) {
	g := open(t)
	for _, s := range sides() {
		for proto := -3; proto <= 300; proto++ {
			if proto == api.UDP || proto == api.TCP || proto == api.ICMP {
				continue
			}
			for _, p := range s.packets {
				p.Proto = proto
				checkRefuses(t, s.way, g, p, 0, api.EDENY)
				p.Body = nil
				checkRefuses(t, s.way, g, p, 0, api.EDENY)
			}
		}
	}
}

// flipped returns p with one bit of its body changed.
func flipped(p ip4.Packet, bit int) ip4.Packet {
	p.Body = append([]byte{}, p.Body...)
	p.Body[bit/8] ^= 1 << (bit % 8)
	return p
}

// errorOfGet is that of the package of a protocol.
func errorOfGet(p ip4.Packet) api.Errno {
	var e api.Errno
	switch p.Proto {
	case api.UDP:
		_, e = udp.Get(p)
	case api.TCP:
		_, e = tcp.Get(p)
	case api.ICMP:
		_, e = icmp.Get(p)
	}
	return e
}

// TestErrorsOfGet has bodies of all shorter lengths, and with all bits changed, one
// at a time: they are refused as Get does, also where there is no mapping, and leave
// nothing.
func TestErrorsOfGet(t *testing.T) {
	seen := map[api.Errno]int{}
	for _, s := range sides() {
		for _, whole := range s.packets {
			var wrong []ip4.Packet
			for n := range whole.Body {
				p := whole
				p.Body = p.Body[:n]
				wrong = append(wrong, p)
			}
			for bit := range 8 * len(whole.Body) {
				wrong = append(wrong, flipped(whole, bit))
			}
			for _, p := range wrong {
				e := errorOfGet(p)
				if e == api.OK {
					t.Fatalf("Get of %+v: no error", p)
				}
				g := made(t, 1, usual())
				checkRefuses(t, s.way, g, p, 5, e)
				checkMaps(t, g, 0)
				checkRefuses(t, s.way, open(t), p, 5, e)
				seen[e]++
			}
		}
	}
	for _, e := range []api.Errno{api.ESHORT, api.ESUM, api.EFORM} {
		if seen[e] < 5 {
			t.Errorf("only %d times %d", seen[e], e)
		}
	}
}

// TestSumOfZero has datagrams whose checksum was not computed: the new one is.
func TestSumOfZero(t *testing.T) {
	g := open(t)
	for _, s := range sides() {
		p := s.packets[0]
		p.Body = append([]byte{}, p.Body...)
		p.Body[6], p.Body[7] = 0, 0
		checkGives(t, s.way, g, p, 0, s.results[0])
	}
}

// TestPassedOver has bytes that Get passes over: they are not written again.
func TestPassedOver(t *testing.T) {
	g := open(t)
	for _, s := range sides() {
		long := s.packets[0]
		long.Body = append(append([]byte{}, long.Body...), "behind"...)
		checkGives(t, s.way, g, long, 0, s.results[0])
		for ignored := range 64 {
			checkGives(t, s.way, g, withIgnored(s.packets[1], ignored), 0, s.results[1])
		}
	}
}

// withIgnored returns a segment with other bits among the six that Get ignores, and
// the checksum that it has then.
func withIgnored(p ip4.Packet, bits int) ip4.Packet {
	p.Body = append([]byte{}, p.Body...)
	p.Body[12] |= byte(bits & 15)
	p.Body[13] |= byte(bits >> 4 << 6)
	p.Body[16], p.Body[17] = 0, 0
	sum := sumOf(append(ip4.Pseudo(p, len(p.Body)), p.Body...))
	p.Body[16], p.Body[17] = byte(sum>>8), byte(sum)
	return p
}

// sumOf is the checksum of b, in numbers that do not overflow.
func sumOf(b []byte) int {
	sum := 0
	for i, c := range b {
		sum += int(c) << (8 - i%2*8)
	}
	for sum > 65535 {
		sum = sum>>16 + sum&65535
	}
	return 65535 - sum
}

// TestRestStays has segments and messages with other values in all fields.
func TestRestStays(t *testing.T) {
	g := open(t)
	for seed := range 300 {
		d := dice(seed)
		s := tcp.Segment{From: low, To: far, Seq: uint32(d.roll(1 << 31)), Ack: uint32(d.roll(1<<31)) * 2, Flags: d.roll(64), Window: d.roll(65536), Urgent: d.roll(65536), Opts: d.bytes(4 * d.roll(11)), Body: d.bytes(d.roll(1460 - 40))}
		checkGives(t, out(), g, must(tcp.Put(outer(host(5), peer(1)), s)), 0, must(tcp.Put(outer(wan(), peer(1)), s)))
		s.From, s.To = far, low
		checkGives(t, in(), g, must(tcp.Put(outer(peer(1), wan()), s)), 0, must(tcp.Put(outer(peer(1), host(5)), s)))
		u := udp.Datagram{From: low, To: far, Body: d.bytes(d.roll(1473))}
		checkGives(t, out(), g, must(udp.Put(outer(host(5), peer(1)), u)), 0, must(udp.Put(outer(wan(), peer(1)), u)))
		u.From, u.To = far, low
		checkGives(t, in(), g, must(udp.Put(outer(peer(1), wan()), u)), 0, must(udp.Put(outer(peer(1), host(5)), u)))
		m := icmp.Message{Type: 8 * d.roll(2), Rest: low<<16 | uint32(d.roll(65536)), Body: d.bytes(d.roll(1473))}
		checkGives(t, out(), g, message(host(5), peer(1), m), 0, message(wan(), peer(1), m))
		checkGives(t, in(), g, message(peer(1), wan(), m), 0, message(peer(1), host(5), m))
	}
}

// tooLong is a packet of so many bytes without those of its header.
func tooLong(p ip4.Packet, size int) ip4.Packet {
	p.Body = append([]byte{}, p.Body...)
	p.Body = append(p.Body, make([]byte, size-len(p.Body))...)
	at := 2
	switch p.Proto {
	case api.UDP:
		p.Body[4], p.Body[5] = byte(size>>8), byte(size)
		at = 6
	case api.TCP:
		at = 16
	}
	p.Body[at], p.Body[at+1] = 0, 0
	summed := p.Body
	if p.Proto != api.ICMP {
		summed = append(ip4.Pseudo(p, size), p.Body...)
	}
	sum := sumOf(summed)
	p.Body[at], p.Body[at+1] = byte(sum>>8), byte(sum)
	return p
}

// TestTooLong has packets that Put does not write: what ports and track did before
// remains, as after those that it just writes.
func TestTooLong(t *testing.T) {
	const most = 1480
	for _, c := range protocols {
		for _, size := range []int{most, most + 1, 2000, 60000} {
			e := api.ELIMIT
			if size == most {
				e = api.OK
			}
			g := made(t, roomy, usual())
			if p, is := g.Out(tooLong(sent(c.proto, host(5), low, peer(1)), size), wan(), 3); is != e || empty(p) == (e == api.OK) {
				t.Errorf("P19.2, R2: Out of %d bytes of protocol %d: %+v, %d", size, c.proto, p, is)
			}
			checkMaps(t, g, 3, ports.Map{Proto: c.proto, Out: low, Addr: host(5), In: low, Kind: flow, Until: 3 + c.secs})
			if p, is := g.In(tooLong(answer(c.proto, peer(1), wan(), low), size), wan(), 5); is != e || empty(p) == (e == api.OK) {
				t.Errorf("P19.3, R2: In of %d bytes of protocol %d: %+v, %d", size, c.proto, p, is)
			}
			checkUntil(t, g, c.proto, low, 5, 5+c.secs)
		}
		g := made(t, 1, usual())
		for i, flags := range []int{syn, syn | ack, ack} {
			p := tooLong(segment(host(5), low, peer(1), far, flags), most+1)
			w := out()
			if i == 1 {
				w, p = in(), tooLong(segment(peer(1), far, wan(), low, flags), most+1)
			}
			checkRefuses(t, w, g, p, 0, api.ELIMIT)
		}
		checkUntil(t, g, api.TCP, low, 0, tcpSecs)
		checkEstablished(t, g, low, low, peer(1), far, 1, true)
	}
}

// TestOrderOfOutsErrors has packets to which several errors apply.
func TestOrderOfOutsErrors(t *testing.T) {
	g := made(t, 1, usual())
	g.put(t, ports.Map{Proto: api.UDP, Out: 1, Addr: host(1), In: 1, Kind: static})
	bad := func(p ip4.Packet) ip4.Packet { return flipped(p, 8*len(p.Body)-1) }
	for _, c := range protocols {
		checkRefuses(t, out(), g, bad(sent(c.proto, host(5), 5000, peer(1))), 0, api.ESUM)
		checkRefuses(t, out(), g, sent(c.proto, host(5), 5000, peer(1)), 0, api.EFULL)
		checkRefuses(t, out(), g, tooLong(sent(c.proto, host(5), 5000, peer(1)), 1481), 0, api.EFULL)
		checkRefuses(t, out(), g, bad(tooLong(sent(c.proto, host(5), 5000, peer(1)), 1481)), 0, api.ESUM)
		if c.proto != api.ICMP {
			checkRefuses(t, out(), g, bad(sent(c.proto, host(5), 0, peer(1))), 0, api.ESUM)
			checkRefuses(t, out(), g, sent(c.proto, host(5), 0, peer(1)), 0, api.EARG)
			checkRefuses(t, out(), g, tooLong(sent(c.proto, host(5), 0, peer(1)), 1481), 0, api.EARG)
		}
	}
}
