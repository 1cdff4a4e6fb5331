package nat_test

import (
	"encoding/binary"
	"slices"
	"testing"

	"gatehouse/api"
	"gatehouse/icmp"
	"gatehouse/ip4"
	"gatehouse/ports"
)

// inner is the beginning of a packet. Of ICMP, its number is that of the end which
// the gateway has, and other bytes stand ahead of it.
type inner struct {
	proto    int
	from     api.Addr
	fromPort int
	to       api.Addr
	toPort   int
	number   int
	opts     []byte
	id       int
	total    int
	tail     []byte
}

// header returns that of i, with odd values in all fields that do not count: it is a
// fragment, and its Ttl is 0.
func (i inner) header() []byte {
	b := []byte{byte(0x45 + len(i.opts)/4), 0x5a}
	b = binary.BigEndian.AppendUint16(b, uint16(i.total))
	b = binary.BigEndian.AppendUint16(b, uint16(i.id))
	b = append(b, 0x3f, 0xfe, 0, byte(i.proto), 0, 0)
	b = append(append(append(b, i.from[:]...), i.to[:]...), i.opts...)
	return summed(b)
}

// summed returns the header b with the right checksum.
func summed(b []byte) []byte {
	b = slices.Clone(b)
	b[10], b[11] = 0, 0
	binary.BigEndian.PutUint16(b[10:], uint16(sumOf(b)))
	return b
}

func (i inner) bytes() []byte {
	b := i.header()
	if i.proto == api.ICMP {
		b = append(b, 8, 0, 0xde, 0xad)
		b = binary.BigEndian.AppendUint16(b, uint16(i.number))
	} else {
		b = binary.BigEndian.AppendUint16(b, uint16(i.fromPort))
		b = binary.BigEndian.AppendUint16(b, uint16(i.toPort))
	}
	return append(b, i.tail...)
}

// gone is the beginning of a packet that went out from an address and a port to the
// peer 1, and come that of one that came back.
func gone(proto int, from api.Addr, port int) inner {
	return inner{proto: proto, from: from, fromPort: port, to: peer(1), toPort: far, number: port, total: 999, tail: []byte("tail")}
}

func come(proto int, to api.Addr, port int) inner {
	return inner{proto: proto, from: peer(1), fromPort: far, to: to, toPort: port, number: port, total: 999, tail: []byte("tail")}
}

// router sends faults from outside.
func router() api.Addr { return api.Addr{198, 51, 7, 1} }

// asked returns a gateway with a mapping from port 5000 of host 5 to low for all
// protocols, and with others beside it.
func asked(t *testing.T) gateway {
	t.Helper()
	g := made(t, roomy, usual())
	for _, proto := range []int{api.UDP, api.TCP, api.ICMP} {
		g.put(t, ports.Map{Proto: proto, Out: low, Addr: host(5), In: 5000, Kind: static})
		g.put(t, ports.Map{Proto: proto, Out: low - 1, Addr: host(5), In: 4999, Kind: static})
		g.put(t, ports.Map{Proto: proto, Out: low + 1, Addr: host(6), In: 5000, Kind: static})
		g.put(t, ports.Map{Proto: proto, Out: far, Addr: host(7), In: far, Kind: static})
	}
	return g
}

// checkFaultIn has a fault about what has gone, and what it is about then.
func checkFaultIn(t *testing.T, g gateway, typ int, i, want []byte) {
	t.Helper()
	checkGives(t, in(), g, fault(router(), wan(), typ, i), 0, fault(router(), host(5), typ, want))
}

func checkFaultOut(t *testing.T, g gateway, typ int, i, want []byte) {
	t.Helper()
	checkGives(t, out(), g, fault(host(5), router(), typ, i), 0, fault(wan(), router(), typ, want))
}

// checkFaults has faults in both directions with inner packets that are changed.
func checkFaults(t *testing.T, g gateway, change func(i *inner)) {
	t.Helper()
	changed := func(i inner) []byte {
		change(&i)
		return i.bytes()
	}
	for _, c := range protocols {
		for _, typ := range []int{3, 11, 12} {
			checkFaultIn(t, g, typ, changed(gone(c.proto, wan(), low)), changed(gone(c.proto, host(5), 5000)))
			checkFaultOut(t, g, typ, changed(come(c.proto, host(5), 5000)), changed(come(c.proto, wan(), low)))
		}
	}
}

func TestFaults(t *testing.T) {
	g := asked(t)
	checkFaults(t, g, func(i *inner) {})
	for size := range 60 {
		checkFaults(t, g, func(i *inner) { i.tail = (new(dice)).bytes(size) })
	}
	for _, size := range []int{255, 256, 1001, 1400, 1472 - 26} {
		checkFaults(t, g, func(i *inner) { i.tail = (new(dice)).bytes(size) })
	}
	for units := range 11 {
		for _, size := range []int{0, 2, 9} {
			checkFaults(t, g, func(i *inner) { i.opts, i.tail = (new(dice)).bytes(4*units), i.tail[:min(size, 4)] })
		}
	}
	for _, total := range []int{0, 1, 5, 19, 20, 24, 27, 28, 255, 256, 1500, 1501, 65535} {
		checkFaults(t, g, func(i *inner) { i.total = total })
	}
}

// TestOtherEndStays has inner packets whose other end has any address and port, also
// those that are mapped.
func TestOtherEndStays(t *testing.T) {
	g := asked(t)
	odd := []api.Addr{{}, wan(), host(5), host(6), host(7), router(), {224, 0, 0, 1}, {255, 255, 255, 255}}
	for _, a := range odd {
		for _, port := range []int{0, 1, far, 4999, 5000, low - 1, low, low + 1, 65535} {
			checkFaults(t, g, func(i *inner) {
				if i.to == peer(1) {
					i.to, i.toPort = a, port
				} else {
					i.from, i.fromPort = a, port
				}
			})
		}
	}
}

// TestFaultsOfAnyone has senders and receivers of the faults themselves that have any
// address: neither counts, but the one that Out asks for.
func TestFaultsOfAnyone(t *testing.T) {
	g := asked(t)
	for _, a := range []api.Addr{{}, wan(), host(5), host(6), peer(1), {255, 255, 255, 255}} {
		for _, c := range protocols {
			p := fault(a, wan(), 3, gone(c.proto, wan(), low).bytes())
			checkGives(t, in(), g, p, 0, fault(a, host(5), 3, gone(c.proto, host(5), 5000).bytes()))
			p = fault(host(5), a, 3, come(c.proto, host(5), 5000).bytes())
			checkGives(t, out(), g, p, 0, fault(wan(), a, 3, come(c.proto, wan(), low).bytes()))
		}
	}
}

// TestFieldsOfFaults has faults with all codes and other values in Rest.
func TestFieldsOfFaults(t *testing.T) {
	g := asked(t)
	for code := range 256 {
		m := icmp.Message{Type: 3, Code: code, Rest: 0xfedcba98 - uint32(code)<<8, Body: gone(api.UDP, wan(), low).bytes()}
		want := m
		want.Body = gone(api.UDP, host(5), 5000).bytes()
		checkGives(t, in(), g, message(router(), wan(), m), 0, message(router(), host(5), want))
		m.Body, want.Body = come(api.ICMP, host(5), 5000).bytes(), come(api.ICMP, wan(), low).bytes()
		checkGives(t, out(), g, message(host(5), router(), m), 0, message(wan(), router(), want))
	}
}

// TestInnerMessages has inner messages of any type and code, with any checksum: only
// the number of queries counts, which stands at the same place in all of them.
func TestInnerMessages(t *testing.T) {
	g := asked(t)
	for v := range 256 {
		b, want := gone(api.ICMP, wan(), low).bytes(), gone(api.ICMP, host(5), 5000).bytes()
		for at := 20; at < 24; at++ {
			b[at], want[at] = byte(v+at), byte(v+at)
		}
		checkFaultIn(t, g, 11, b, want)
		b, want = come(api.ICMP, host(5), 5000).bytes(), come(api.ICMP, wan(), low).bytes()
		for at := 20; at < 24; at++ {
			b[at], want[at] = byte(v+at), byte(v+at)
		}
		checkFaultOut(t, g, 11, b, want)
	}
}

// TestInnerPorts has all ports and numbers of the gateway and of the host.
func TestInnerPorts(t *testing.T) {
	for port := 1; port <= 65535; port += 1 + port%199 {
		own := 65536 - port
		for _, c := range protocols {
			g := made(t, roomy, usual())
			checkRefuses(t, in(), g, fault(router(), wan(), 3, gone(c.proto, wan(), port).bytes()), 0, api.ENONE)
			checkRefuses(t, out(), g, fault(host(5), router(), 3, come(c.proto, host(5), own).bytes()), 0, api.ENONE)
			g.put(t, ports.Map{Proto: c.proto, Out: port, Addr: host(5), In: own, Kind: upnp, Until: 9})
			checkFaultIn(t, g, 3, gone(c.proto, wan(), port).bytes(), gone(c.proto, host(5), own).bytes())
			checkFaultOut(t, g, 3, come(c.proto, host(5), own).bytes(), come(c.proto, wan(), port).bytes())
			if port != own {
				checkRefuses(t, in(), g, fault(router(), wan(), 3, gone(c.proto, wan(), own).bytes()), 0, api.ENONE)
				checkRefuses(t, out(), g, fault(host(5), router(), 3, come(c.proto, host(5), port).bytes()), 0, api.ENONE)
			}
			checkRefuses(t, in(), g, fault(router(), wan(), 3, gone(c.proto, wan(), port).bytes()), 9, api.ENONE)
			checkRefuses(t, out(), g, fault(host(5), router(), 3, come(c.proto, host(5), own).bytes()), 9, api.ENONE)
		}
	}
	g := made(t, roomy, usual())
	g.put(t, ports.Map{Proto: api.ICMP, Out: 0, Addr: host(5), In: 65535, Kind: static})
	checkFaultIn(t, g, 3, gone(api.ICMP, wan(), 0).bytes(), gone(api.ICMP, host(5), 65535).bytes())
	checkFaultOut(t, g, 3, come(api.ICMP, host(5), 65535).bytes(), come(api.ICMP, wan(), 0).bytes())
	for _, proto := range []int{api.UDP, api.TCP} {
		checkRefuses(t, in(), g, fault(router(), wan(), 3, gone(proto, wan(), 0).bytes()), 0, api.ENONE)
		checkRefuses(t, out(), g, fault(host(5), router(), 3, come(proto, host(5), 65535).bytes()), 0, api.ENONE)
	}
}

// TestFaultsPrefer has several mappings of a host's port, as they are preferred.
func TestFaultsPrefer(t *testing.T) {
	for _, c := range protocols {
		g := made(t, roomy, usual())
		maps := kinds(c.proto)
		for _, m := range maps {
			g.put(t, m)
			checkFaultOut(t, g, 12, come(c.proto, host(5), 9).bytes(), come(c.proto, wan(), m.Out).bytes())
		}
		for _, m := range maps {
			checkFaultIn(t, g, 12, gone(c.proto, wan(), m.Out).bytes(), gone(c.proto, host(5), 9).bytes())
		}
		checkMaps(t, g, 0, maps...)
	}
}

// TestFaultsChangeNothing has mappings of flows and a connection: they are the same
// after all faults.
func TestFaultsChangeNothing(t *testing.T) {
	g := made(t, roomy, usual())
	checkGives(t, out(), g, datagram(host(5), 5000, peer(1), far), 0, datagram(wan(), low, peer(1), far))
	checkGives(t, out(), g, query(host(5), peer(1), 8, 5000), 0, query(wan(), peer(1), 8, low))
	establish(t, g, 5000, low, peer(1), far, 0)
	before := g.maps.All(0)
	for _, c := range protocols {
		for _, own := range []int{5000, 5001} {
			for _, port := range []int{low, low + 1} {
				g.In(fault(peer(1), wan(), 3, gone(c.proto, wan(), port).bytes()), wan(), 5)
				g.Out(fault(host(5), peer(1), 3, come(c.proto, host(5), own).bytes()), wan(), 5)
				checkMaps(t, g, 5, before...)
			}
		}
	}
	checkEstablished(t, g, 5000, low, peer(1), far, 6, true)
}

// refused has the error of a fault about b, in both directions.
func refused(t *testing.T, g gateway, w way, b []byte, e api.Errno) {
	t.Helper()
	p := fault(host(5), router(), 3, b)
	if w.name == in().name {
		p = fault(router(), wan(), 3, b)
	}
	checkRefuses(t, w, g, p, 0, e)
}

// inners are inner packets that Nat rewrites, for both ways.
func inners() []struct {
	way
	inner
} {
	var l []struct {
		way
		inner
	}
	for _, c := range protocols {
		for units := 0; units <= 10; units += 5 {
			i, o := gone(c.proto, wan(), low), come(c.proto, host(5), 5000)
			i.opts, o.opts = (new(dice)).bytes(4*units), (new(dice)).bytes(4*units)
			l = append(l, struct {
				way
				inner
			}{in(), i}, struct {
				way
				inner
			}{out(), o})
		}
	}
	return l
}

// TestInnerSizes has inner packets cut at each byte.
func TestInnerSizes(t *testing.T) {
	g := asked(t)
	for _, x := range inners() {
		head, whole := 20+len(x.opts), x.bytes()
		least := head + 4
		if x.proto == api.ICMP {
			least = head + 6
		}
		for size := range whole {
			if size < least {
				refused(t, g, x.way, whole[:size], api.EFORM)
				continue
			}
			if _, e := x.call(g, cut(x.way, whole[:size]), 0); e != api.OK {
				t.Errorf("%s of a fault about %x: %d", x.name, whole[:size], e)
			}
		}
	}
}

// cut is a fault about b.
func cut(w way, b []byte) ip4.Packet {
	if w.name == in().name {
		return fault(router(), wan(), 3, b)
	}
	return fault(host(5), router(), 3, b)
}

// TestInnerSums has inner packets with each bit of the header changed, with and
// without the checksum that fits then, and all of their checksums.
func TestInnerSums(t *testing.T) {
	g := asked(t)
	for _, x := range inners() {
		whole, head := x.bytes(), 20+len(x.opts)
		for bit := range 8 * head {
			b := slices.Clone(whole)
			b[bit/8] ^= 1 << (bit % 8)
			refused(t, g, x.way, b, api.EFORM)
		}
		right := int(binary.BigEndian.Uint16(whole[10:]))
		for sum := 0; sum <= 65535; sum += 1 + sum%89 {
			if b := withSum(whole, sum); sum != right {
				refused(t, g, x.way, b, api.EFORM)
			}
		}
	}
}

func withSum(b []byte, sum int) []byte {
	b = slices.Clone(b)
	binary.BigEndian.PutUint16(b[10:], uint16(sum))
	return b
}

// TestFirstBytes has all versions with all lengths of the header, whose checksum
// fits as far as it is there.
func TestFirstBytes(t *testing.T) {
	g := asked(t)
	for _, x := range inners() {
		x.opts = nil
		x.tail = (new(dice)).bytes(60)
		for first := range 256 {
			b := x.bytes()
			b[0] = byte(first)
			head := first % 16 * 4
			n := max(20, head)
			copy(b, summed(b[:n]))
			want := api.EFORM
			if first/16 == 4 && head >= 20 {
				want = api.OK
				if head > 20 {
					// The ports are others of those behind x's own header.
					copy(b[head:], x.bytes()[20:26])
				}
			}
			q, e := x.call(g, cut(x.way, b), 0)
			if e != want || empty(q) == (e == api.OK) {
				t.Errorf("%s of a fault about a packet with the first byte %d: %+v, %d", x.name, first, q, e)
			}
			if head < 20 {
				copy(b, summed(b[:max(12, head)]))
				refused(t, g, x.way, b, api.EFORM)
			}
		}
	}
}

// TestSumsOfZero has headers whose checksum is 0 or 65535, before or after they are
// rewritten: both are accepted, and the new one is 0.
func TestSumsOfZero(t *testing.T) {
	g := asked(t)
	found := 0
	for id := range 65536 {
		i, want := gone(api.UDP, wan(), low), gone(api.UDP, host(5), 5000)
		i.id, want.id = id, id
		b, c := i.bytes(), want.bytes()
		if be(b, 10) == 0 {
			checkFaultIn(t, g, 3, b, c)
			checkFaultIn(t, g, 3, withSum(b, 65535), c)
			found++
		}
		if be(c, 10) == 0 {
			checkFaultIn(t, g, 3, b, c)
			found++
		}
		o, want := come(api.UDP, host(5), 5000), come(api.UDP, wan(), low)
		o.id, want.id = id, id
		b, c = o.bytes(), want.bytes()
		if be(b, 10) == 0 {
			checkFaultOut(t, g, 3, withSum(b, 65535), c)
			found++
		}
	}
	if found != 3 {
		t.Errorf("%d headers with the checksum 0", found)
	}
}

// TestSumsAreNew has headers with the checksum 65535, where it would stay if what
// changes were added to it: the address remains, or its bits are all turned.
func TestSumsAreNew(t *testing.T) {
	g := made(t, roomy, usual())
	all := api.Addr{255, 255, 255, 255}
	g.put(t, ports.Map{Proto: api.UDP, Out: 99, Addr: wan(), In: 99, Kind: static})
	g.put(t, ports.Map{Proto: api.UDP, Out: 98, Addr: api.Addr{}, In: 98, Kind: static})
	found := 0
	for id := range 65536 {
		i := gone(api.UDP, wan(), 99)
		i.id = id
		if b := i.bytes(); be(b, 10) == 0 {
			checkGives(t, in(), g, fault(router(), wan(), 3, withSum(b, 65535)), 0, fault(router(), wan(), 3, b))
			found++
		}
		i, want := gone(api.UDP, all, 98), gone(api.UDP, api.Addr{}, 98)
		i.id, want.id = id, id
		if b := i.bytes(); be(b, 10) == 0 {
			p, e := g.In(fault(router(), all, 3, withSum(b, 65535)), all, 0)
			if e != api.OK || !same(p, fault(router(), api.Addr{}, 3, want.bytes())) {
				t.Errorf("P19.3: In of a header with the checksum 65535: %+v, %d", p, e)
			}
			found++
		}
	}
	if found != 2 {
		t.Errorf("%d headers with the checksum 0", found)
	}
}

// TestInnerAddresses has addresses at the end that counts which are others by a bit,
// and all protocols.
func TestInnerAddresses(t *testing.T) {
	g := asked(t)
	for _, x := range inners() {
		var others []api.Addr
		for bit := range 32 {
			a := wan()
			if x.name == out().name {
				a = host(5)
			}
			a[bit/8] ^= 1 << (bit % 8)
			others = append(others, a)
		}
		for _, a := range append(others, api.Addr{}, peer(1), router()) {
			i := x.inner
			if x.name == out().name {
				i.to, i.from = a, host(5)
			} else {
				i.from, i.to = a, wan()
			}
			refused(t, g, x.way, i.bytes(), api.EDENY)
		}
		for proto := range 256 {
			if proto == api.UDP || proto == api.TCP || proto == api.ICMP {
				continue
			}
			i := x.inner
			i.proto = proto
			refused(t, g, x.way, i.bytes(), api.EDENY)
		}
	}
}

// TestFaultOfAnother has faults about packets that another host of the same mapping
// table was sent.
func TestFaultOfAnother(t *testing.T) {
	g := asked(t)
	for _, c := range protocols {
		b := come(c.proto, host(5), 5000).bytes()
		checkRefuses(t, out(), g, fault(host(6), router(), 3, b), 0, api.EDENY)
		checkRefuses(t, out(), g, fault(wan(), router(), 3, b), 0, api.EDENY)
		b = come(c.proto, wan(), low).bytes()
		checkRefuses(t, out(), g, fault(host(5), router(), 3, b), 0, api.EDENY)
		checkRefuses(t, out(), g, fault(wan(), router(), 3, b), 0, api.ENONE)
		checkRefuses(t, out(), g, fault(host(6), router(), 3, come(c.proto, host(6), 4999).bytes()), 0, api.ENONE)
		b = come(c.proto, host(6), 5000).bytes()
		checkGives(t, out(), g, fault(host(6), router(), 3, b), 0, fault(wan(), router(), 3, come(c.proto, wan(), low+1).bytes()))
	}
}

// TestOrderOfInnerErrors has faults to which several errors apply.
func TestOrderOfInnerErrors(t *testing.T) {
	g := asked(t)
	for _, x := range inners() {
		head := 20 + len(x.opts)
		i := x.inner
		i.from, i.to, i.fromPort, i.toPort, i.number = peer(2), peer(3), 4, 4, 4
		b := i.bytes()
		refused(t, g, x.way, b, api.EDENY)
		refused(t, g, x.way, b[:head+4], api.EDENY)
		refused(t, g, x.way, b[:head+3], api.EFORM)
		b[8]++
		refused(t, g, x.way, b, api.EFORM)
		i = x.inner
		i.proto = 2
		refused(t, g, x.way, i.bytes()[:head+4], api.EDENY)
		refused(t, g, x.way, i.bytes()[:head+3], api.EFORM)
		i = x.inner
		i.fromPort, i.toPort, i.number = 4, 4, 4
		refused(t, g, x.way, i.bytes(), api.ENONE)
		if i.proto == api.ICMP {
			refused(t, g, x.way, i.bytes()[:head+5], api.EFORM)
			refused(t, g, x.way, i.bytes()[:head+6], api.ENONE)
		} else {
			refused(t, g, x.way, i.bytes()[:head+4], api.ENONE)
		}
	}
}

// TestTooLongFaults has faults that Put does not write, and others that Get and In
// refuse sooner.
func TestTooLongFaults(t *testing.T) {
	g := asked(t)
	for _, x := range inners() {
		for _, size := range []int{1480, 1481, 3000} {
			p := tooLong(cut(x.way, x.bytes()), size)
			q, e := x.call(g, p, 0)
			if (e == api.OK) != (size == 1480) || e != api.OK && (e != api.ELIMIT || !empty(q)) {
				t.Errorf("%s of a fault of %d bytes: %d", x.name, size, e)
			}
			checkRefuses(t, x.way, g, flipped(p, 8), 0, api.ESUM)
			i := x.inner
			i.fromPort, i.toPort, i.number = 4, 4, 4
			checkRefuses(t, x.way, g, tooLong(cut(x.way, i.bytes()), size), 0, api.ENONE)
		}
	}
}
