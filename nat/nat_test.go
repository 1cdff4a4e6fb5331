package nat_test

import (
	"math"
	"slices"
	"testing"

	"gatehouse/api"
	"gatehouse/icmp"
	"gatehouse/ip4"
	"gatehouse/nat"
	"gatehouse/ports"
	"gatehouse/tcp"
	"gatehouse/udp"
)

const (
	fin = 1
	syn = 2
	rst = 4
	psh = 8
	ack = 16
	urg = 32
)

// The kinds of mappings.
const (
	flow   = 1
	pmp    = 2
	upnp   = 3
	static = 4
)

// The seconds of the usual times.
const (
	udpSecs  = 100
	tcpSecs  = 5000
	icmpSecs = 30
	openSecs = 240 // track's, for a SYN
)

// low is the port from which on the flows have theirs, and roomy a number of
// mappings that no test reaches that does not mean to.
const (
	low   = 40000
	roomy = 128
)

func wan() api.Addr { return api.Addr{203, 0, 113, 7} }

func host(n int) api.Addr { return api.Addr{10, 0, 0, byte(n)} }

func peer(n int) api.Addr { return api.Addr{198, 51, 100, byte(n)} }

func usual() nat.Times { return nat.Times{Udp: udpSecs, Tcp: tcpSecs, Icmp: icmpSecs} }

// gateway is a Nat with its table of mappings.
type gateway struct {
	*nat.Nat
	maps *ports.Table
}

func made(t *testing.T, room int, x nat.Times) gateway {
	t.Helper()
	maps, e := ports.New(low, room)
	if e != api.OK {
		t.Fatalf("ports.New: %d", e)
	}
	n, e := nat.New(maps, x)
	if e != api.OK || n == nil {
		t.Fatalf("P19.1: New of %v: %v, %d", x, n, e)
	}
	return gateway{n, maps}
}

func (g gateway) put(t *testing.T, m ports.Map) {
	t.Helper()
	if e := g.maps.Put(m, 0); e != api.OK {
		t.Fatalf("ports' Put of %+v: %d", m, e)
	}
}

// outer is a packet without a body, with odd values in all fields that stay.
func outer(from, to api.Addr) ip4.Packet {
	return ip4.Packet{Tos: 3, ID: 7788, Flags: 2, Ttl: 9, From: from, To: to, Opts: []byte{1, 1, 7, 0}}
}

func must(p ip4.Packet, e api.Errno) ip4.Packet {
	if e != api.OK {
		panic(e)
	}
	return p
}

func datagram(from api.Addr, fromPort int, to api.Addr, toPort int) ip4.Packet {
	return must(udp.Put(outer(from, to), udp.Datagram{From: fromPort, To: toPort, Body: []byte("hello")}))
}

func segment(from api.Addr, fromPort int, to api.Addr, toPort, flags int) ip4.Packet {
	s := tcp.Segment{From: fromPort, To: toPort, Seq: 1 << 31, Ack: 1<<32 - 2, Flags: flags, Window: 65535, Urgent: 3, Opts: []byte{1, 1, 1, 0}, Body: []byte("text")}
	return must(tcp.Put(outer(from, to), s))
}

func message(from, to api.Addr, m icmp.Message) ip4.Packet {
	return must(icmp.Put(outer(from, to), m))
}

func query(from, to api.Addr, typ, number int) ip4.Packet {
	return message(from, to, icmp.Message{Type: typ, Rest: uint32(number)<<16 | 0xabcd, Body: []byte("ping")})
}

// fault is a message about the packet with which about begins.
func fault(from, to api.Addr, typ int, about []byte) ip4.Packet {
	return message(from, to, icmp.Message{Type: typ, Code: 1, Rest: 0x01020304, Body: about})
}

// far is the port of the peer.
const far = 53

// sent is a packet from a port of a host, or with a number, to a peer.
func sent(proto int, from api.Addr, port int, to api.Addr) ip4.Packet {
	switch proto {
	case api.UDP:
		return datagram(from, port, to, far)
	case api.TCP:
		return segment(from, port, to, far, syn)
	}
	return query(from, to, 8, port)
}

// answer is a packet from a peer to a port, or with a number.
func answer(proto int, from, to api.Addr, port int) ip4.Packet {
	switch proto {
	case api.UDP:
		return datagram(from, far, to, port)
	case api.TCP:
		return segment(from, far, to, port, syn)
	}
	return query(from, to, 0, port)
}

// protocols are those that Nat rewrites, with the seconds for which the mapping of
// the packet sent lives.
var protocols = []struct {
	proto int
	secs  int64
}{{api.UDP, udpSecs}, {api.TCP, openSecs}, {api.ICMP, icmpSecs}}

// way is one of the two directions.
type way struct {
	name string
	call func(g gateway, p ip4.Packet, now int64) (ip4.Packet, api.Errno)
}

func out() way {
	return way{"P19.2: Out", func(g gateway, p ip4.Packet, now int64) (ip4.Packet, api.Errno) { return g.Out(p, wan(), now) }}
}

func in() way {
	return way{"P19.3: In", func(g gateway, p ip4.Packet, now int64) (ip4.Packet, api.Errno) { return g.In(p, wan(), now) }}
}

func same(p, q ip4.Packet) bool {
	return p.Tos == q.Tos && p.ID == q.ID && p.Flags == q.Flags && p.Part == q.Part && p.Ttl == q.Ttl &&
		p.Proto == q.Proto && p.From == q.From && p.To == q.To &&
		slices.Equal(p.Opts, q.Opts) && slices.Equal(p.Body, q.Body)
}

func empty(p ip4.Packet) bool { return same(p, ip4.Packet{}) }

// checkGives has a packet, and the one that it becomes.
func checkGives(t *testing.T, w way, g gateway, p ip4.Packet, now int64, want ip4.Packet) {
	t.Helper()
	if q, e := w.call(g, p, now); e != api.OK || !same(q, want) {
		t.Errorf("%s of %+v at %d: %+v, %d instead of %+v", w.name, p, now, q, e, want)
	}
}

// checkRefuses has a packet, and the error that comes of it.
func checkRefuses(t *testing.T, w way, g gateway, p ip4.Packet, now int64, want api.Errno) {
	t.Helper()
	if q, e := w.call(g, p, now); e != want || !empty(q) {
		t.Errorf("%s of %+v at %d: %+v, %d instead of %d", w.name, p, now, q, e, want)
	}
}

// checkMaps has all live mappings.
func checkMaps(t *testing.T, g gateway, now int64, want ...ports.Map) {
	t.Helper()
	if l := g.maps.All(now); !slices.Equal(l, want) {
		t.Errorf("P19.2, P19.3: the mappings at %d: %+v instead of %+v", now, l, want)
	}
}

// checkUntil has the time until which a mapping lives.
func checkUntil(t *testing.T, g gateway, proto, port int, now, want int64) {
	t.Helper()
	if m, ok := g.maps.In(proto, port, now); !ok || m.Until != want {
		t.Errorf("P19.2, P19.3: the mapping at %d: %+v, %v instead of until %d", now, m, ok, want)
	}
}

// timesWith returns usual times but for one of them.
func timesWith(secs int) []nat.Times {
	l := []nat.Times{usual(), usual(), usual()}
	l[0].Udp, l[1].Tcp, l[2].Icmp = secs, secs, secs
	return l
}

func TestNew(t *testing.T) {
	maps, _ := ports.New(low, roomy)
	for _, secs := range []int{math.MinInt, -86400, -10, -1, 0, 1, 8, 9, 86401, 86402, 1 << 20, 1<<32 + 100, math.MaxInt} {
		for _, x := range timesWith(secs) {
			if n, e := nat.New(maps, x); n != nil || e != api.EARG {
				t.Errorf("P19.1, R2: New of %v: %v, %d", x, n, e)
			}
		}
		if n, e := nat.New(maps, nat.Times{Udp: secs, Tcp: secs, Icmp: secs}); n != nil || e != api.EARG {
			t.Errorf("P19.1, R2: New of %d thrice: %v, %d", secs, n, e)
		}
	}
	for _, secs := range []int{10, 11, 12, 255, 256, 65535, 65536, 86399, 86400} {
		for _, x := range timesWith(secs) {
			made(t, 1, x)
		}
		made(t, 1, nat.Times{Udp: secs, Tcp: secs, Icmp: secs})
	}
	if l := maps.All(0); len(l) != 0 {
		t.Errorf("P19.1: New leaves %v", l)
	}
}

// TestEachHasItsTime has other seconds for each protocol.
func TestEachHasItsTime(t *testing.T) {
	for _, x := range []nat.Times{{Udp: 10, Tcp: 11, Icmp: 12}, {Udp: 86400, Tcp: 10, Icmp: 86399}, {Udp: 50, Tcp: 240, Icmp: 10}, {Udp: 60, Tcp: 86400, Icmp: 60}} {
		g := made(t, roomy, x)
		for _, c := range protocols {
			checkGives(t, out(), g, sent(c.proto, host(5), low, peer(1)), 7, sent(c.proto, wan(), low, peer(1)))
		}
		checkUntil(t, g, api.UDP, low, 7, 7+int64(x.Udp))
		checkUntil(t, g, api.TCP, low, 7, 7+int64(min(x.Tcp, openSecs)))
		checkUntil(t, g, api.ICMP, low, 7, 7+int64(x.Icmp))
		for _, c := range protocols {
			checkGives(t, in(), g, answer(c.proto, peer(1), wan(), low), 9, answer(c.proto, peer(1), host(5), low))
		}
		checkUntil(t, g, api.UDP, low, 9, 9+int64(x.Udp))
		checkUntil(t, g, api.TCP, low, 9, 9+int64(min(x.Tcp, openSecs)))
		checkUntil(t, g, api.ICMP, low, 9, 9+int64(x.Icmp))
	}
}

// TestExample has the example of the chapter, for all protocols.
func TestExample(t *testing.T) {
	for _, c := range protocols {
		g := made(t, roomy, usual())
		checkGives(t, out(), g, sent(c.proto, host(5), 5000, peer(1)), 0, sent(c.proto, wan(), low, peer(1)))
		checkGives(t, in(), g, answer(c.proto, peer(1), wan(), low), 1, answer(c.proto, peer(1), host(5), 5000))
	}
}

// TestSharedTable has two Nats with one table: they share its mappings, but not the
// connections.
func TestSharedTable(t *testing.T) {
	g := made(t, roomy, usual())
	other, e := nat.New(g.maps, nat.Times{Udp: 200, Tcp: 6000, Icmp: 20})
	if e != api.OK {
		t.Fatalf("P19.1: New: %d", e)
	}
	h := gateway{other, g.maps}
	checkGives(t, out(), g, datagram(host(5), 5000, peer(1), far), 0, datagram(wan(), low, peer(1), far))
	checkGives(t, in(), h, datagram(peer(1), far, wan(), low), 1, datagram(peer(1), far, host(5), 5000))
	checkUntil(t, g, api.UDP, low, 1, 201)
	establish(t, g, 5000, low, peer(1), far, 2)
	checkUntil(t, g, api.TCP, low, 2, 2+tcpSecs)
	checkGives(t, out(), h, segment(host(5), 5000, peer(1), far, ack), 3, segment(wan(), low, peer(1), far, ack))
	checkUntil(t, g, api.TCP, low, 3, 3+60)
	checkGives(t, out(), g, segment(host(5), 5000, peer(1), far, ack), 3, segment(wan(), low, peer(1), far, ack))
	checkUntil(t, g, api.TCP, low, 3, 3+tcpSecs)
}

// establish lets a connection begin that leads from a port of host 5, which is port
// of the gateway, to a peer.
func establish(t *testing.T, g gateway, own, port int, to api.Addr, toPort int, now int64) {
	t.Helper()
	checkGives(t, out(), g, segment(host(5), own, to, toPort, syn), now, segment(wan(), port, to, toPort, syn))
	checkGives(t, in(), g, segment(to, toPort, wan(), port, syn|ack), now, segment(to, toPort, host(5), own, syn|ack))
	checkGives(t, out(), g, segment(host(5), own, to, toPort, ack), now, segment(wan(), port, to, toPort, ack))
}

// checkEstablished tells an established connection from one of no state by the time
// until which its mapping lives after a segment.
func checkEstablished(t *testing.T, g gateway, own, port int, to api.Addr, toPort int, now int64, is bool) {
	t.Helper()
	secs := int64(60)
	if is {
		secs = tcpSecs
	}
	checkGives(t, out(), g, segment(host(5), own, to, toPort, ack), now, segment(wan(), port, to, toPort, ack))
	checkUntil(t, g, api.TCP, port, now, now+secs)
}

func TestForget(t *testing.T) {
	g := made(t, roomy, usual())
	establish(t, g, 5000, low, peer(1), far, 0)
	establish(t, g, 5000, low, peer(2), far, 0)
	establish(t, g, 5000, low, peer(1), far+1, 0)
	establish(t, g, 5001, low+1, peer(1), far, 0)
	for _, port := range []int{math.MinInt, -1, 0, far, 5000, 5001, low + 2, 65536 + low, math.MaxInt} {
		g.Forget(port)
	}
	checkEstablished(t, g, 5000, low, peer(1), far, 1, true)
	before := g.maps.All(1)
	g.Forget(low)
	checkMaps(t, g, 1, before...)
	checkEstablished(t, g, 5000, low, peer(1), far, 2, false)
	checkEstablished(t, g, 5000, low, peer(2), far, 3, false)
	checkEstablished(t, g, 5000, low, peer(1), far+1, 4, false)
	checkEstablished(t, g, 5001, low+1, peer(1), far, 5, true)
	establish(t, g, 5000, low, peer(1), far, 6)
	checkEstablished(t, g, 5000, low, peer(1), far, 7, true)
}

// TestRoomOfConnections has as many connections as there is room for, and one more:
// it takes the place of the first one.
func TestRoomOfConnections(t *testing.T) {
	const room = 128
	g := made(t, 1, usual())
	for n := range room {
		establish(t, g, 5000, low, peer(n), far, 0)
	}
	for n := range room {
		checkEstablished(t, g, 5000, low, peer(n), far, int64(n), true)
	}
	establish(t, g, 5000, low, peer(room), far, room)
	checkEstablished(t, g, 5000, low, peer(0), far, room+1, false)
	for n := 1; n <= room; n++ {
		checkEstablished(t, g, 5000, low, peer(n), far, int64(room+1+n), true)
	}
}
