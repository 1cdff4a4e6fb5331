package serve_test

import (
	"encoding/binary"
	"reflect"
	"slices"
	"testing"

	"gatehouse/addr"
	"gatehouse/api"
	"gatehouse/conf"
	"gatehouse/dhcp"
	"gatehouse/opt"
	"gatehouse/pool"
	"gatehouse/serve"
)

// The types of messages.
const (
	discover = 1
	offer    = 2
	request  = 3
	decline  = 4
	ack      = 5
	nak      = 6
	release  = 7
	inform   = 8
)

// at returns the address number n of the network of lan. The gateway has number 1,
// the pool those from 100 to 103, of which 102 is fixed, as is 9 beside the pool.
func at(n int) api.Addr { return api.Addr{10, 7, 5, byte(n)} }

// mac returns the MAC address number n. Number 8 has the fixed address 102, and
// number 9 the fixed address 9.
func mac(n int) api.Mac { return api.Mac{byte(n), 3, 5, 7, byte(n >> 8), byte(n ^ 0xa5)} }

func config() conf.Conf {
	c := conf.Usual()
	c.Own, c.Lan = at(1), addr.Net{Addr: at(0), Bits: 24}
	c.First, c.Last, c.Time = at(100), at(103), 100
	c.Fixed = []conf.Fixed{{Mac: mac(9), Addr: at(9)}, {Mac: mac(8), Addr: at(102)}}
	return c
}

func changed(change func(c *conf.Conf)) conf.Conf {
	c := config()
	change(&c)
	return c
}

func made(t *testing.T, c conf.Conf) *serve.Server {
	t.Helper()
	s, e := serve.New(c)
	if e != api.OK || s == nil {
		t.Fatalf("P15.1: New(%+v): %v, %d", c, s, e)
	}
	return s
}

func option(code int, body ...byte) opt.Option { return opt.Option{Code: code, Body: body} }

// want, server and client are what a host tells: the address that it wants, the
// server that it speaks to, and the address that it has.
func want(a api.Addr) opt.Option   { return option(50, a[:]...) }
func server(a api.Addr) opt.Option { return option(54, a[:]...) }
func client(m dhcp.Message, a api.Addr) dhcp.Message {
	m.Client = a
	return m
}

func flagged(m dhcp.Message, flags int) dhcp.Message {
	m.Flags = flags
	return m
}

// message returns one of the MAC address number m, in which also those fields are
// not zero that mean nothing to the server.
func message(kind, m int, opts ...opt.Option) dhcp.Message {
	return dhcp.Message{
		Op: 1, Hops: 3, Xid: 0x81234567, Secs: 77, Flags: 0x1234,
		Your: api.Addr{10, 7, 5, 88}, Server: api.Addr{10, 7, 5, 2}, Relay: api.Addr{4, 5, 6, 7},
		Mac:  mac(m),
		Opts: append([]opt.Option{option(12, 'h', 'o'), option(53, byte(kind)), option(51, 0, 0, 0, 9), option(55, 1, 3)}, opts...),
	}
}

// basic returns the message of an answer of the configuration to m, without the
// options that only some answers have.
func basic(m dhcp.Message, kind byte) dhcp.Message {
	return dhcp.Message{
		Op: 2, Xid: m.Xid, Flags: m.Flags, Server: api.Addr{10, 7, 5, 1}, Relay: m.Relay, Mac: m.Mac,
		Opts: []opt.Option{{Code: 53, Body: []byte{kind}}, {Code: 54, Body: []byte{10, 7, 5, 1}}},
	}
}

// lanOptions are those that tell about the network.
func lanOptions() []opt.Option {
	return []opt.Option{option(1, 255, 255, 255, 0), option(3, 10, 7, 5, 1), option(6, 10, 7, 5, 1)}
}

// leased returns the message of an OFFER or an ACK with an address.
func leased(m dhcp.Message, kind byte, your api.Addr) dhcp.Message {
	out := basic(m, kind)
	out.Your = your
	if kind == ack {
		out.Client = m.Client
	}
	out.Opts = append(append(out.Opts, option(51, 0, 0, 0, 100)), lanOptions()...)
	return out
}

// offered, acked, refused and told are whole answers. A host without an address
// has no Client, and asks in its Flags for no answer to all hosts.
func offered(m dhcp.Message, your api.Addr) serve.Answer {
	return serve.Answer{Message: leased(m, offer, your), Mac: m.Mac, To: your}
}

func acked(m dhcp.Message, your api.Addr) serve.Answer {
	return serve.Answer{Message: leased(m, ack, your), Mac: m.Mac, To: your}
}

func refused(m dhcp.Message) serve.Answer { return toAll(basic(m, nak)) }

func told(m dhcp.Message) serve.Answer {
	out := basic(m, ack)
	out.Client = m.Client
	out.Opts = append(out.Opts, lanOptions()...)
	return serve.Answer{Message: out, Mac: m.Mac, To: m.Client}
}

func toAll(m dhcp.Message) serve.Answer {
	return serve.Answer{Message: m, Mac: api.Mac{255, 255, 255, 255, 255, 255}, To: api.Addr{255, 255, 255, 255}}
}

func checkGet(t *testing.T, s *serve.Server, m dhcp.Message, now int64, want serve.Answer) {
	t.Helper()
	if a, ok := s.Get(m, now); !ok || !reflect.DeepEqual(a, want) {
		t.Errorf("P15.1: Get(%+v, %d): %+v, %v instead of %+v", m, now, a, ok, want)
	}
}

func checkSilent(t *testing.T, s *serve.Server, m dhcp.Message, now int64) {
	t.Helper()
	if a, ok := s.Get(m, now); ok || !reflect.DeepEqual(a, serve.Answer{}) {
		t.Errorf("P15.1, R2: Get(%+v, %d): %+v, %v instead of no answer", m, now, a, ok)
	}
}

// take lets the MAC address number m have the address number n.
func take(t *testing.T, s *serve.Server, m, n int, now int64) {
	t.Helper()
	msg := message(request, m, want(at(n)))
	checkGet(t, s, msg, now, acked(msg, at(n)))
}

func refuse(t *testing.T, s *serve.Server, m, n int, now int64) {
	t.Helper()
	msg := message(request, m, want(at(n)))
	checkGet(t, s, msg, now, refused(msg))
}

func propose(t *testing.T, s *serve.Server, m, n int, now int64) {
	t.Helper()
	msg := message(discover, m)
	checkGet(t, s, msg, now, offered(msg, at(n)))
}

// until returns the lease of the address number n for the MAC address number m.
func until(m, n int, end int64) pool.Lease { return pool.Lease{Mac: mac(m), Addr: at(n), Until: end} }

func checkTick(t *testing.T, s *serve.Server, now int64, want ...pool.Lease) {
	t.Helper()
	if l := s.Tick(now); !slices.Equal(l, want) {
		t.Errorf("P15.2: Tick(%d): %v instead of %v", now, l, want)
	}
}

func checkAll(t *testing.T, s *serve.Server, now int64, want ...pool.Lease) {
	t.Helper()
	if l := s.All(now); !slices.Equal(l, want) {
		t.Errorf("P15.2: All(%d): %v instead of %v", now, l, want)
	}
}

func checkHolds(t *testing.T, s *serve.Server, a api.Addr, now int64, want bool) {
	t.Helper()
	if ok := s.Holds(a, now); ok != want {
		t.Errorf("P15.2: Holds(%v, %d): %v instead of %v", a, now, ok, want)
	}
}

func checkNoNew(t *testing.T, c conf.Conf) {
	t.Helper()
	if s, e := serve.New(c); s != nil || e != api.EARG {
		t.Errorf("P15.1, R2: New(%+v): %v, %d instead of EARG", c, s, e)
	}
}

// TestWrongConfigurations have values that Check refuses, most of which mean nothing
// to the server.
func TestWrongConfigurations(t *testing.T) {
	made(t, config())
	checkNoNew(t, conf.Conf{})
	for _, change := range []func(c *conf.Conf){
		func(c *conf.Conf) { c.Own = at(0) },
		func(c *conf.Conf) { c.Own = at(101) },
		func(c *conf.Conf) { c.Lan.Bits = 7 },
		func(c *conf.Conf) { c.Lan.Bits = 31 },
		func(c *conf.Conf) { c.Lan.Bits = 33 },
		func(c *conf.Conf) { c.Lan.Bits = -1 },
		func(c *conf.Conf) { c.Lan.Addr = at(1) },
		func(c *conf.Conf) { c.LanMac[0] = 1 },
		func(c *conf.Conf) { c.WanMac[0] = 1 },
		func(c *conf.Conf) { c.First, c.Last = c.Last, c.First },
		func(c *conf.Conf) { c.Last = at(164) },
		func(c *conf.Conf) { c.Time = 59 },
		func(c *conf.Conf) { c.Time = 86401 },
		func(c *conf.Conf) { c.Time = 1<<32 + 100 },
		func(c *conf.Conf) { c.Dns = api.Addr{} },
		func(c *conf.Conf) { c.UdpTime = 9 },
		func(c *conf.Conf) { c.Low = 1023 },
		func(c *conf.Conf) { c.Fixed[0].Mac = c.Fixed[1].Mac },
		func(c *conf.Conf) { c.Fixed[0].Addr = c.Fixed[1].Addr },
		func(c *conf.Conf) { c.Fixed[1].Addr = c.Own },
		func(c *conf.Conf) { c.Fixed = make([]conf.Fixed, 33) },
		func(c *conf.Conf) { c.Open = []conf.Open{{Proto: 1, Port: 1, Addr: at(5), To: 1}} },
	} {
		checkNoNew(t, changed(change))
	}
}

// TestPools has pools of all sizes, with a fixed address at each place of some: each
// of them offers all its addresses in order, and then none.
func TestPools(t *testing.T) {
	for size := 1; size <= 64; size++ {
		for _, place := range []int{-1, 0, size / 2, size - 1, size} {
			c := changed(func(c *conf.Conf) {
				c.First, c.Last = at(100), at(99+size)
				c.Fixed = []conf.Fixed{{Mac: mac(200), Addr: at(100 + place)}}
			})
			s := made(t, c)
			for n := range size {
				if n != place {
					propose(t, s, n, 100+n, 5)
					take(t, s, n, 100+n, 5)
				}
			}
			checkSilent(t, s, message(discover, 300), 5)
			checkSilent(t, s, message(discover, 300, want(at(100))), 5)
			refuse(t, s, 300, 99, 5)
			refuse(t, s, 300, 100+size, 5)
			propose(t, s, 200, 100+place, 5)
			take(t, s, 200, 100+place, 5)
		}
	}
}

// TestFixedLines has as many of them as there may be, each for its host alone.
func TestFixedLines(t *testing.T) {
	c := config()
	c.Fixed = nil
	for i := range 32 {
		c.Fixed = append(c.Fixed, conf.Fixed{Mac: mac(i), Addr: at(103 - i)})
	}
	s := made(t, c)
	for i := range 32 {
		propose(t, s, i, 103-i, 0)
		refuse(t, s, i, 103-(i+1)%32, 0)
		refuse(t, s, 40+i, 103-i, 0)
		checkHolds(t, s, at(103-i), 0, true)
	}
	checkSilent(t, s, message(discover, 50), 0)
	for i := range 32 {
		take(t, s, i, 103-i, 0)
	}
	if l := s.All(99); len(l) != 32 {
		t.Errorf("P15.1: %d leases", len(l))
	}
	if l := s.Tick(100); len(l) != 32 {
		t.Errorf("P15.1: %d leases are over", len(l))
	}
}

// TestNetworks has all numbers of bits, for which the mask and the gateway's address
// stand in the options.
func TestNetworks(t *testing.T) {
	for bits := 8; bits <= 30; bits++ {
		for _, in := range []uint32{0, 0x0a000000, 0xac141234, 0xffffffff} {
			mask := -uint32(1 << (32 - bits))
			own := in&mask + 1
			c := changed(func(c *conf.Conf) {
				c.Own, c.Lan = addr.Of(own), addr.Net{Addr: addr.Of(in & mask), Bits: bits}
				c.First, c.Last, c.Fixed = addr.Of(own+1), addr.Of(own+1), nil
			})
			s := made(t, c)
			four := func(n uint32) []byte { return binary.BigEndian.AppendUint32(nil, n) }
			head := func(kind byte) []opt.Option {
				return []opt.Option{option(53, kind), option(54, four(own)...)}
			}
			tail := []opt.Option{option(1, four(mask)...), option(3, four(own)...), option(6, four(own)...)}
			for _, c := range []struct {
				m    dhcp.Message
				opts []opt.Option
			}{
				{message(discover, 1), slices.Concat(head(offer), []opt.Option{option(51, 0, 0, 0, 100)}, tail)},
				{message(request, 1, want(addr.Of(own+1))), slices.Concat(head(ack), []opt.Option{option(51, 0, 0, 0, 100)}, tail)},
				{message(request, 1, server(addr.Of(own)), want(addr.Of(own))), head(nak)},
				{client(message(inform, 1), at(5)), slices.Concat(head(ack), tail)},
			} {
				a, ok := s.Get(c.m, 0)
				if !ok || !reflect.DeepEqual(a.Message.Opts, c.opts) || a.Message.Server != addr.Of(own) {
					t.Errorf("P15.1: Get(%+v) in %d bits of %x: %+v, %v instead of the options %v", c.m, bits, in, a, ok, c.opts)
				}
			}
			checkSilent(t, s, message(request, 1, server(addr.Of(own+1)), want(addr.Of(own+1))), 0)
		}
	}
}

// TestDurations has leases of many durations, which stand in the answers too.
func TestDurations(t *testing.T) {
	for _, secs := range []int{60, 61, 127, 128, 255, 256, 257, 3600, 32767, 32768, 65535, 65536, 65537, 86399, 86400} {
		s := made(t, changed(func(c *conf.Conf) { c.Time = secs }))
		body := binary.BigEndian.AppendUint32(nil, uint32(secs))
		for _, m := range []dhcp.Message{message(discover, 1), message(request, 1, want(at(100))), client(message(request, 1), at(100))} {
			a, ok := s.Get(m, 7)
			if !ok || !reflect.DeepEqual(a.Message.Opts[2], opt.Option{Code: 51, Body: body}) {
				t.Errorf("P15.1: Get(%+v) for %d seconds: %+v, %v", m, secs, a, ok)
			}
		}
		end := 7 + int64(secs)
		checkAll(t, s, end-1, until(1, 100, end))
		checkHolds(t, s, at(100), end-1, true)
		checkTick(t, s, end-1)
		checkHolds(t, s, at(100), end, false)
		checkAll(t, s, end)
		checkTick(t, s, end, until(1, 100, end))
		checkTick(t, s, end)
	}
}

// TestHolds asks for all addresses of the network and for others.
func TestHolds(t *testing.T) {
	s := made(t, config())
	check := func(now int64, held ...int) {
		t.Helper()
		for n := range 256 {
			checkHolds(t, s, at(n), now, slices.Contains(held, n))
		}
		for _, a := range []api.Addr{{}, {10, 7, 4, 9}, {10, 7, 6, 100}, {255, 255, 255, 255}} {
			checkHolds(t, s, a, now, false)
		}
	}
	check(0, 9, 102)
	propose(t, s, 1, 100, 0)
	check(0, 9, 102)
	take(t, s, 1, 100, 0)
	take(t, s, 2, 103, 1)
	take(t, s, 9, 9, 2)
	check(99, 9, 100, 102, 103)
	check(100, 9, 102, 103)
	take(t, s, 3, 101, 100)
	check(100, 9, 101, 102, 103)
	check(101, 9, 101, 102)
	check(102, 9, 101, 102)
	checkSilent(t, s, client(message(release, 3), at(101)), 102)
	check(102, 9, 102)
	take(t, s, 3, 103, 102)
	checkSilent(t, s, message(decline, 3, want(at(103))), 102)
	check(102, 9, 102)
	none := made(t, changed(func(c *conf.Conf) { c.Fixed = nil }))
	checkHolds(t, none, at(9), 0, false)
	checkHolds(t, none, at(102), 0, false)
	checkHolds(t, none, api.Addr{}, 0, false)
}

// TestTickAndAll have leases in another order than their addresses.
func TestTickAndAll(t *testing.T) {
	s := made(t, config())
	checkTick(t, s, 0)
	checkAll(t, s, 0)
	for i, c := range [][2]int{{3, 103}, {8, 102}, {1, 101}, {2, 100}, {9, 9}} {
		take(t, s, c[0], c[1], int64(i))
	}
	checkAll(t, s, 99, until(9, 9, 104), until(2, 100, 103), until(1, 101, 102), until(8, 102, 101), until(3, 103, 100))
	checkTick(t, s, 99)
	checkTick(t, s, 102, until(1, 101, 102), until(8, 102, 101), until(3, 103, 100))
	checkAll(t, s, 102, until(9, 9, 104), until(2, 100, 103))
	take(t, s, 3, 103, 102)
	checkTick(t, s, 202, until(9, 9, 104), until(2, 100, 103), until(3, 103, 202))
	checkTick(t, s, 203)
	checkAll(t, s, 203)
}
