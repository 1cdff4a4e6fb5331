package nat_test

import (
	"testing"

	"gatehouse/api"
	"gatehouse/ip4"
	"gatehouse/ports"
)

// TestInToOthers has packets that are not to wan: they are refused ahead of all
// other faults.
func TestInToOthers(t *testing.T) {
	g := open(t)
	var others []api.Addr
	for bit := range 32 {
		a := wan()
		a[bit/8] ^= 1 << (bit % 8)
		others = append(others, a)
	}
	others = append(others, api.Addr{}, host(5), peer(1), api.Addr{255, 255, 255, 255})
	for _, a := range others {
		for _, p := range allAnswers(peer(1), a) {
			checkRefuses(t, in(), g, p, 0, api.EDENY)
			p.Part = 1
			checkRefuses(t, in(), g, p, 0, api.EDENY)
			p.Body, p.Part = nil, 0
			checkRefuses(t, in(), g, p, 0, api.EDENY)
		}
	}
}

// TestInFromAnyone has peers that no packet was sent to, with any port.
func TestInFromAnyone(t *testing.T) {
	for _, c := range protocols {
		g := made(t, roomy, usual())
		checkGives(t, out(), g, sent(c.proto, host(5), 5000, peer(1)), 0, sent(c.proto, wan(), low, peer(1)))
		for _, from := range []api.Addr{peer(1), peer(2), wan(), host(5), host(6), {}, {255, 255, 255, 255}} {
			checkGives(t, in(), g, answer(c.proto, from, wan(), low), 1, answer(c.proto, from, host(5), 5000))
		}
	}
	g := open(t)
	for port := 0; port <= 65535; port += 1 + port%97 {
		checkGives(t, in(), g, datagram(peer(1), port, wan(), low), 1, datagram(peer(1), port, host(5), low))
		checkGives(t, in(), g, segment(peer(1), port, wan(), low, ack), 1, segment(peer(1), port, host(5), low, ack))
	}
}

// TestInToAnyPort has all ports of the gateway that a mapping may have, with a port
// of the host that is another one.
func TestInToAnyPort(t *testing.T) {
	for port := 0; port <= 65535; port += 1 + port%97 {
		for _, c := range protocols {
			own := 65536 - port
			if c.proto == api.ICMP {
				own = 65535 - port
			} else if port == 0 {
				continue
			}
			g := made(t, roomy, usual())
			checkRefuses(t, in(), g, answer(c.proto, peer(1), wan(), port), 0, api.ENONE)
			g.put(t, ports.Map{Proto: c.proto, Out: port, Addr: host(5), In: own, Kind: pmp, Until: 50})
			checkGives(t, in(), g, answer(c.proto, peer(1), wan(), port), 0, answer(c.proto, peer(1), host(5), own))
			if own != port {
				checkRefuses(t, in(), g, answer(c.proto, peer(1), wan(), own), 0, api.ENONE)
			}
			checkGives(t, in(), g, answer(c.proto, peer(1), wan(), port), 49, answer(c.proto, peer(1), host(5), own))
			checkRefuses(t, in(), g, answer(c.proto, peer(1), wan(), port), 50, api.ENONE)
		}
	}
}

// TestNoPortIn has packets to and from port 0: In asks for a mapping alone.
func TestNoPortIn(t *testing.T) {
	g := open(t)
	checkRefuses(t, in(), g, datagram(peer(1), far, wan(), 0), 0, api.ENONE)
	checkRefuses(t, in(), g, segment(peer(1), far, wan(), 0, syn), 0, api.ENONE)
	checkGives(t, in(), g, datagram(peer(1), 0, wan(), low), 0, datagram(peer(1), 0, host(5), low))
	checkGives(t, in(), g, segment(peer(1), 0, wan(), low, syn), 0, segment(peer(1), 0, host(5), low, syn))
}

// TestInLetsLive has mappings of flows, which live on after each packet, but not for
// a shorter time than before.
func TestInLetsLive(t *testing.T) {
	for _, c := range protocols {
		g := made(t, roomy, usual())
		checkGives(t, out(), g, sent(c.proto, host(5), 5000, peer(1)), 0, sent(c.proto, wan(), low, peer(1)))
		checkUntil(t, g, c.proto, low, 0, c.secs)
		for now := int64(0); now < 5*c.secs; now += c.secs - 1 {
			checkGives(t, in(), g, answer(c.proto, peer(1), wan(), low), now, answer(c.proto, peer(1), host(5), 5000))
			checkUntil(t, g, c.proto, low, now, now+c.secs)
		}
		now := int64(6 * c.secs)
		checkRefuses(t, in(), g, answer(c.proto, peer(1), wan(), low), now, api.ENONE)
		checkMaps(t, g, now)
		g.maps.Make(api.Flow{Proto: c.proto, Addr: host(5), Port: 5000}, now, c.secs+3)
		for _, later := range []int64{0, 2, 3} {
			checkGives(t, in(), g, answer(c.proto, peer(1), wan(), low), now+later, answer(c.proto, peer(1), host(5), 5000))
			checkUntil(t, g, c.proto, low, now+later, now+c.secs+3)
		}
		checkGives(t, in(), g, answer(c.proto, peer(1), wan(), low), now+4, answer(c.proto, peer(1), host(5), 5000))
		checkUntil(t, g, c.proto, low, now+4, now+c.secs+4)
	}
}

// TestInLeavesOthers has several mappings, of which one lives on after a packet.
func TestInLeavesOthers(t *testing.T) {
	for _, c := range protocols {
		g := made(t, roomy, usual())
		var all []ports.Map
		for n := range 4 {
			checkGives(t, out(), g, sent(c.proto, host(n), 5000, peer(1)), 0, sent(c.proto, wan(), low+n, peer(1)))
			all = append(all, ports.Map{Proto: c.proto, Out: low + n, Addr: host(n), In: 5000, Kind: flow, Until: c.secs})
		}
		for n := range all {
			now := int64(n + 1)
			checkGives(t, in(), g, answer(c.proto, peer(1), wan(), low+n), now, answer(c.proto, peer(1), host(n), 5000))
			all[n].Until = now + c.secs
			checkMaps(t, g, now, all...)
		}
	}
}

// TestRequestedStay has mappings that were requested or are static: no packet changes
// for how long they live, and Out makes no other ones.
func TestRequestedStay(t *testing.T) {
	for _, c := range protocols {
		for kind := pmp; kind <= static; kind++ {
			m := ports.Map{Proto: c.proto, Out: 77, Addr: host(5), In: 5000, Kind: kind, Until: 12}
			if kind == static {
				m.Until = 0
			}
			g := made(t, roomy, usual())
			g.put(t, m)
			checkGives(t, in(), g, answer(c.proto, peer(1), wan(), 77), 1, answer(c.proto, peer(1), host(5), 5000))
			checkMaps(t, g, 1, m)
			checkGives(t, out(), g, sent(c.proto, host(5), 5000, peer(1)), 2, sent(c.proto, wan(), 77, peer(1)))
			checkMaps(t, g, 2, m)
		}
	}
}

// TestOrderOfInsErrors has packets to which several errors apply.
func TestOrderOfInsErrors(t *testing.T) {
	for _, c := range protocols {
		g := made(t, roomy, usual())
		p := answer(c.proto, peer(1), wan(), low)
		checkRefuses(t, in(), g, flipped(p, 0), 0, api.ESUM)
		checkRefuses(t, in(), g, tooLong(p, 1481), 0, api.ENONE)
		g.put(t, ports.Map{Proto: c.proto, Out: low, Addr: host(5), In: low, Kind: static})
		checkRefuses(t, in(), g, flipped(tooLong(p, 1481), 0), 0, api.ESUM)
		checkRefuses(t, in(), g, tooLong(p, 1481), 0, api.ELIMIT)
	}
}

// TestAnswersBySomeoneElse has a port that was another host's before.
func TestAnswersBySomeoneElse(t *testing.T) {
	for _, c := range protocols {
		g := made(t, 1, usual())
		for n := range 5 {
			now := int64(n) * c.secs
			checkGives(t, out(), g, sent(c.proto, host(n), 5000+n, peer(1)), now, sent(c.proto, wan(), low, peer(1)))
			checkGives(t, in(), g, answer(c.proto, peer(1), wan(), low), now, answer(c.proto, peer(1), host(n), 5000+n))
			now += c.secs - 1
			checkUntil(t, g, c.proto, low, now, now+1)
		}
	}
}

// TestBothTypesOfQueries has questions and answers in both directions.
func TestBothTypesOfQueries(t *testing.T) {
	g := made(t, roomy, usual())
	for _, typ := range []int{0, 8} {
		for _, number := range []int{0, 1, 255, 256, 40000, 65535} {
			g.maps.Clear(flow)
			mapped := max(number, low)
			checkGives(t, out(), g, query(host(5), peer(1), typ, number), 0, query(wan(), peer(1), typ, mapped))
			checkGives(t, in(), g, query(peer(1), wan(), typ, mapped), 0, query(peer(1), host(5), typ, number))
			checkGives(t, in(), g, query(peer(1), wan(), 8-typ, mapped), 0, query(peer(1), host(5), 8-typ, number))
		}
	}
}

// TestOtherMessages has all types with all codes: only queries and faults are let
// through, and nothing is done for others.
func TestOtherMessages(t *testing.T) {
	for typ := range 256 {
		for _, code := range []int{0, 1, 2, 3, 4, 13, 127, 128, 255} {
			g := made(t, roomy, usual())
			m := ports.Map{Proto: api.ICMP, Out: low, Addr: host(5), In: low, Kind: flow, Until: 10}
			g.maps.Make(api.Flow{Proto: api.ICMP, Addr: host(5), Port: low}, 0, 10)
			for _, w := range []way{out(), in()} {
				p := typed(host(5), peer(1), typ, code)
				if w.name == in().name {
					p = typed(peer(1), wan(), typ, code)
				}
				q, e := w.call(g, p, 1)
				switch {
				case typ == 3 || typ == 11 || typ == 12:
					if e != api.EFORM || !empty(q) {
						t.Errorf("%s of a fault without an inner packet: %d", w.name, e)
					}
				case (typ == 0 || typ == 8) && code == 0:
					if e != api.OK {
						t.Errorf("%s of a query: %d", w.name, e)
					}
					m.Until = 1 + icmpSecs
				default:
					if e != api.EDENY || !empty(q) {
						t.Errorf("%s of type %d, code %d: %+v, %d", w.name, typ, code, q, e)
					}
				}
				checkMaps(t, g, 1, m)
			}
		}
	}
}

// typed is a message with the number low and few bytes.
func typed(from, to api.Addr, typ, code int) ip4.Packet {
	p := query(from, to, 0, low)
	p.Body[0], p.Body[1], p.Body[2], p.Body[3] = byte(typ), byte(code), 0, 0
	sum := sumOf(p.Body)
	p.Body[2], p.Body[3] = byte(sum>>8), byte(sum)
	return p
}
