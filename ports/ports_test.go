package ports_test

import (
	"math"
	"slices"
	"testing"

	"gatehouse/api"
	"gatehouse/ports"
)

const (
	icmp = 1
	tcp  = 6
	udp  = 17
)

var protos = []int{icmp, tcp, udp}

// host returns the address number n, of which those from 100 on differ from those
// below in their first byte only.
func host(n int) api.Addr { return api.Addr{byte(10 + n/100), 0, 7, byte(n % 100)} }

func flow(proto, n, port int) api.Flow {
	return api.Flow{Proto: proto, Addr: host(n), Port: port}
}

// kind returns a mapping of the kind k of the port in of the host number n.
func kind(k, proto, out, n, in int, until int64) ports.Map {
	return ports.Map{Proto: proto, Out: out, Addr: host(n), In: in, Kind: k, Until: until}
}

// end returns the Until of a mapping of the kind k that is to live until then.
func end(k int, until int64) int64 {
	if k == 4 {
		return 0
	}
	return until
}

func made(t *testing.T, low, room int) *ports.Table {
	t.Helper()
	x, e := ports.New(low, room)
	if e != api.OK || x == nil {
		t.Fatalf("P17.1: New(%d, %d): %v, %d", low, room, x, e)
	}
	return x
}

func checkPut(t *testing.T, x *ports.Table, m ports.Map, now int64, is api.Errno) {
	t.Helper()
	if e := x.Put(m, now); e != is {
		t.Errorf("P17.1: Put(%v, %d): %d instead of %d", m, now, e, is)
	}
}

// put has mappings that are all added or extended.
func put(t *testing.T, x *ports.Table, now int64, l ...ports.Map) {
	t.Helper()
	for _, m := range l {
		checkPut(t, x, m, now, api.OK)
	}
}

func checkMake(t *testing.T, x *ports.Table, f api.Flow, now, secs int64, is ports.Map) {
	t.Helper()
	if m, e := x.Make(f, now, secs); m != is || e != api.OK {
		t.Errorf("P17.1: Make(%v, %d, %d): %v, %d instead of %v", f, now, secs, m, e, is)
	}
}

// checkMakeAt has a flow that is given a new mapping at the port out.
func checkMakeAt(t *testing.T, x *ports.Table, f api.Flow, now, secs int64, out int) {
	t.Helper()
	checkMake(t, x, f, now, secs, ports.Map{Proto: f.Proto, Out: out, Addr: f.Addr, In: f.Port, Kind: 1, Until: now + secs})
}

func checkNoMake(t *testing.T, x *ports.Table, f api.Flow, now, secs int64, is api.Errno) {
	t.Helper()
	if m, e := x.Make(f, now, secs); m != (ports.Map{}) || e != is {
		t.Errorf("P17.1, R2: Make(%v, %d, %d): %v, %d instead of %d", f, now, secs, m, e, is)
	}
}

func checkOut(t *testing.T, x *ports.Table, f api.Flow, now int64, is ports.Map) {
	t.Helper()
	if m, ok := x.Out(f, now); m != is || !ok {
		t.Errorf("P17.1: Out(%v, %d): %v, %v instead of %v", f, now, m, ok, is)
	}
}

func checkNoOut(t *testing.T, x *ports.Table, f api.Flow, now int64) {
	t.Helper()
	if m, ok := x.Out(f, now); m != (ports.Map{}) || ok {
		t.Errorf("P17.1, R2: Out(%v, %d): %v, %v instead of none", f, now, m, ok)
	}
}

// checkIn has the protocol and the port of the mapping that is to be found.
func checkIn(t *testing.T, x *ports.Table, now int64, is ports.Map) {
	t.Helper()
	if m, ok := x.In(is.Proto, is.Out, now); m != is || !ok {
		t.Errorf("P17.1: In(%d, %d, %d): %v, %v instead of %v", is.Proto, is.Out, now, m, ok, is)
	}
}

func checkNoIn(t *testing.T, x *ports.Table, proto, out int, now int64) {
	t.Helper()
	if m, ok := x.In(proto, out, now); m != (ports.Map{}) || ok {
		t.Errorf("P17.1, R2: In(%d, %d, %d): %v, %v instead of none", proto, out, now, m, ok)
	}
}

func checkLive(t *testing.T, x *ports.Table, proto, out int, now, secs int64, is bool) {
	t.Helper()
	if ok := x.Live(proto, out, now, secs); ok != is {
		t.Errorf("P17.1: Live(%d, %d, %d, %d): %v instead of %v", proto, out, now, secs, ok, is)
	}
}

func checkDrop(t *testing.T, x *ports.Table, proto, out, kind int, is bool) {
	t.Helper()
	if ok := x.Drop(proto, out, kind); ok != is {
		t.Errorf("P17.1: Drop(%d, %d, %d): %v instead of %v", proto, out, kind, ok, is)
	}
}

func checkPurge(t *testing.T, x *ports.Table, n, keep, is int) {
	t.Helper()
	if count := x.Purge(host(n), keep); count != is {
		t.Errorf("P17.1: Purge(%v, %d): %d instead of %d", host(n), keep, count, is)
	}
}

func checkClear(t *testing.T, x *ports.Table, kind, is int) {
	t.Helper()
	if count := x.Clear(kind); count != is {
		t.Errorf("P17.1: Clear(%d): %d instead of %d", kind, count, is)
	}
}

func checkTick(t *testing.T, x *ports.Table, now int64, want ...ports.Map) {
	t.Helper()
	if l := x.Tick(now); !slices.Equal(l, want) {
		t.Errorf("P17.1: Tick(%d): %v instead of %v", now, l, want)
	}
}

// checkAll has what All returns, and Len ahead of it.
func checkAll(t *testing.T, x *ports.Table, now int64, want ...ports.Map) {
	t.Helper()
	if n := x.Len(now); n != len(want) {
		t.Errorf("P17.1: Len(%d): %d instead of %d", now, n, len(want))
	}
	if l := x.All(now); !slices.Equal(l, want) {
		t.Errorf("P17.1: All(%d): %v instead of %v", now, l, want)
	}
}

func TestNew(t *testing.T) {
	const least, most = math.MinInt, math.MaxInt
	for _, c := range [][2]int{
		{1023, 1}, {1023, 128}, {60001, 1}, {60001, 128}, {0, 5}, {-1, 5}, {-1024, 5}, {65536, 5}, {1024 + 1<<32, 5}, {least, 5}, {most, 5},
		{1024, 0}, {60000, 0}, {1024, 129}, {60000, 129}, {1024, -1}, {1024, -128}, {1024, 1 + 1<<32}, {1024, least}, {1024, most},
		{0, 0}, {60001, 129}, {least, most},
	} {
		if x, e := ports.New(c[0], c[1]); x != nil || e != api.EARG {
			t.Errorf("P17.1, R2: New(%d, %d): %v, %d instead of EARG", c[0], c[1], x, e)
		}
	}
	for low := 1024; low <= 60000; low++ {
		x := made(t, low, 1+low%128)
		if low%97 == 0 || low < 1030 || low > 59990 {
			checkAll(t, x, 0)
			checkTick(t, x, 0)
			checkMakeAt(t, x, flow(udp, 5, 1), 0, 9, low)
		}
	}
}

// TestRooms has tables of each room: each takes so many live mappings, made and put
// by turns, and then none, till one of them is over.
func TestRooms(t *testing.T) {
	for room := 1; room <= 128; room++ {
		x := made(t, 2000, room)
		for i := range room {
			if n := x.Len(0); n != i {
				t.Fatalf("P17.1: Len(0) with %d: %d", i, n)
			}
			f := flow(protos[i%3], i, 1+i)
			if i%4 == 1 {
				put(t, x, 0, kind(2+i%3, f.Proto, 1+i, i, 1+i, end(2+i%3, 100)))
				continue
			}
			if m, e := x.Make(f, 0, 100); e != api.OK || m.Until != 100 {
				t.Fatalf("P17.1: Make of number %d with room %d: %v, %d", i, room, m, e)
			}
		}
		checkPut(t, x, kind(4, tcp, 1, 5, 5, 0), 0, api.EFULL)
		checkNoMake(t, x, flow(udp, 200, 5), 0, 5, api.EFULL)
		if n := x.Len(99); n != room {
			t.Errorf("P17.1, T3: Len with room %d: %d", room, n)
		}
		live := x.Len(100)
		for i := live; i < room; i++ {
			checkMakeAt(t, x, flow(udp, i, 1), 100, 5, 2000+i-live)
		}
		checkNoMake(t, x, flow(udp, 200, 5), 100, 5, api.EFULL)
	}
}

// TestExample has the chapter's one.
func TestExample(t *testing.T) {
	x := made(t, 40000, 128)
	five, six := api.Addr{10, 0, 0, 5}, api.Addr{10, 0, 0, 6}
	f := api.Flow{Proto: api.UDP, Addr: five, Port: 50000}
	g := api.Flow{Proto: api.UDP, Addr: six, Port: 50000}
	first := ports.Map{Proto: 17, Out: 50000, Addr: five, In: 50000, Kind: 1, Until: 60}
	second := ports.Map{Proto: 17, Out: 40000, Addr: six, In: 50000, Kind: 1, Until: 61}
	checkMake(t, x, f, 0, 60, first)
	checkMake(t, x, g, 1, 60, second)
	checkOut(t, x, f, 1, first)
	checkOut(t, x, g, 1, second)
	checkIn(t, x, 1, first)
	checkIn(t, x, 1, second)
	checkAll(t, x, 1, second, first)
}

// wrongPorts are neither ports nor identifiers.
var wrongPorts = []int{-1, -2, -80, 65536, 65537, 131072, 1 << 32, 80 + 1<<32, -65536, math.MinInt, math.MaxInt}

var wrongProtos = []int{0, -1, 2, 3, 4, 5, 7, 8, 9, 16, 18, 19, 255, 256, 257, 262, 273, -6, -17, 6 + 1<<32, math.MinInt, math.MaxInt}

// TestPutWrong has each field wrong, also where there is a live mapping of the port
// and where there is no room.
func TestPutWrong(t *testing.T) {
	for _, full := range []bool{false, true} {
		x := made(t, 2000, 1)
		if full {
			put(t, x, 0, kind(2, tcp, 80, 5, 8080, 50))
		}
		wrong := func(m ports.Map, now int64) {
			t.Helper()
			checkPut(t, x, m, now, api.EARG)
		}
		for _, proto := range wrongProtos {
			for k := 2; k <= 3; k++ {
				wrong(kind(k, proto, 80, 5, 8080, 90), 10)
			}
			wrong(kind(4, proto, 80, 5, 8080, 0), 10)
		}
		for _, proto := range protos {
			for _, n := range wrongPorts {
				wrong(kind(2, proto, n, 5, 8080, 90), 10)
				wrong(kind(2, proto, 80, 5, n, 90), 10)
				wrong(kind(3, proto, n, 5, n, 90), 10)
				wrong(kind(4, proto, n, 5, 8080, 0), 10)
			}
			for _, k := range []int{1, 0, -1, -2, 5, 6, 7, 8, 256, 258, 2 + 1<<32, math.MinInt, math.MaxInt} {
				wrong(kind(k, proto, 80, 5, 8080, 90), 10)
				wrong(kind(k, proto, 80, 5, 8080, 0), 10)
			}
			for _, until := range []int64{10, 9, 1, 0, -1, -90, math.MinInt64} {
				wrong(kind(2, proto, 80, 5, 8080, until), 10)
				wrong(kind(3, proto, 80, 5, 8080, until), 10)
			}
			for _, until := range []int64{1, -1, 10, 11, 90, api.MaxTime, math.MaxInt64, math.MinInt64} {
				wrong(kind(4, proto, 80, 5, 8080, until), 10)
			}
		}
		for _, proto := range []int{tcp, udp} {
			wrong(kind(2, proto, 0, 5, 8080, 90), 10)
			wrong(kind(3, proto, 80, 5, 0, 90), 10)
			wrong(kind(4, proto, 0, 5, 0, 0), 10)
		}
		wrong(ports.Map{}, 10)
		if full {
			checkAll(t, x, 10, kind(2, tcp, 80, 5, 8080, 50))
		} else {
			checkAll(t, x, 10)
		}
	}
}

// TestPutEdges has the least and the greatest of each field, of each kind.
func TestPutEdges(t *testing.T) {
	for _, proto := range protos {
		least := 1
		if proto == icmp {
			least = 0
		}
		for _, n := range []int{least, 2, 255, 256, 1023, 1024, 32768, 65534, 65535} {
			for _, in := range []int{least, 7, 65535} {
				for k := 2; k <= 3; k++ {
					for _, until := range []int64{11, 12, 1000, api.MaxTime, api.MaxTime + 5, math.MaxInt64} {
						x := made(t, 2000, 1)
						m := kind(k, proto, n, 5, in, until)
						put(t, x, 10, m)
						checkAll(t, x, 10, m)
						checkIn(t, x, 10, m)
						checkOut(t, x, flow(proto, 5, in), 10, m)
					}
				}
				x := made(t, 2000, 1)
				m := kind(4, proto, n, 5, in, 0)
				put(t, x, 10, m)
				checkAll(t, x, api.MaxTime, m)
				checkIn(t, x, 10, m)
				checkOut(t, x, flow(proto, 5, in), 10, m)
			}
		}
	}
	x := made(t, 2000, 5)
	put(t, x, 0, kind(2, tcp, 9, 0, 9, 5), ports.Map{Proto: udp, Out: 9, In: 9, Kind: 4})
	checkAll(t, x, 0, kind(2, tcp, 9, 0, 9, 5), ports.Map{Proto: udp, Out: 9, In: 9, Kind: 4})
}

// TestPutTaken has another kind, address or inner port than the live mapping of the
// port, of each kind: it stays what it is.
func TestPutTaken(t *testing.T) {
	for _, proto := range protos {
		for live := 1; live <= 4; live++ {
			for _, room := range []int{1, 5} {
				x := made(t, 2000, room)
				first := kind(live, proto, 3000, 5, 3000, end(live, 20))
				if live == 1 {
					checkMake(t, x, flow(proto, 5, 3000), 0, 20, first)
				} else {
					put(t, x, 0, first)
				}
				for k := 2; k <= 4; k++ {
					for _, n := range []int{5, 6, 105} {
						for _, in := range []int{3000, 3001, 1} {
							if k == live && n == 5 && in == 3000 {
								continue
							}
							checkPut(t, x, kind(k, proto, 3000, n, in, end(k, 20)), 0, api.ETAKEN)
						}
					}
				}
				checkAll(t, x, 0, first)
			}
		}
	}
}

// TestPutTakenByAddr has addresses that differ in one bit.
func TestPutTakenByAddr(t *testing.T) {
	x := made(t, 2000, 2)
	m := kind(3, udp, 80, 5, 90, 50)
	put(t, x, 0, m)
	for i := range m.Addr {
		for bit := range 8 {
			other := m
			other.Addr[i] ^= 1 << bit
			checkPut(t, x, other, 0, api.ETAKEN)
			checkNoOut(t, x, api.Flow{Proto: udp, Addr: other.Addr, Port: 90}, 0)
			if n := x.Purge(other.Addr, 0); n != 0 {
				t.Errorf("P17.1: Purge(%v, 0): %d", other.Addr, n)
			}
		}
	}
	checkAll(t, x, 0, m)
}

// TestPutFull has no room for mappings of other ports, but for the live ones, which
// are extended or taken, as if there were room.
func TestPutFull(t *testing.T) {
	x := made(t, 2000, 2)
	first, second := kind(2, tcp, 80, 5, 8080, 50), kind(4, udp, 80, 5, 8080, 0)
	put(t, x, 0, first, second)
	checkPut(t, x, kind(2, udp, 81, 5, 8080, 50), 0, api.EFULL)
	checkPut(t, x, kind(3, tcp, 81, 5, 8080, 50), 0, api.EFULL)
	checkPut(t, x, kind(4, icmp, 80, 5, 8080, 0), 0, api.EFULL)
	checkPut(t, x, kind(2, tcp, 80, 6, 8080, 50), 0, api.ETAKEN)
	checkPut(t, x, kind(2, udp, 80, 5, 8080, 50), 0, api.ETAKEN)
	checkPut(t, x, kind(2, udp, 81, 5, 8080, 0), 0, api.EARG)
	first.Until = 70
	put(t, x, 0, first, second)
	checkAll(t, x, 0, first, second)
	checkPut(t, x, kind(2, udp, 81, 5, 8080, 80), 69, api.EFULL)
	third := kind(2, udp, 81, 5, 8080, 80)
	put(t, x, 70, third)
	checkAll(t, x, 70, second, third)
	checkPut(t, x, kind(2, tcp, 80, 5, 8080, 90), 70, api.EFULL)
	checkTick(t, x, 70, first)
}

// TestPutExtends has a live mapping put again, for longer and for shorter times.
func TestPutExtends(t *testing.T) {
	for _, proto := range protos {
		for k := 2; k <= 3; k++ {
			x := made(t, 2000, 3)
			m := kind(k, proto, 80, 5, 8080, 50)
			other := kind(4, proto, 81, 5, 8080, 0)
			put(t, x, 0, m, other)
			for _, until := range []int64{50, 51, 49, 1000, 2, 1, math.MaxInt64, 30} {
				m.Until = until
				put(t, x, 0, m)
				checkIn(t, x, 0, m)
				checkAll(t, x, 0, m, other)
			}
			put(t, x, 0, other)
			checkAll(t, x, 29, m, other)
			m.Until = 31
			put(t, x, 29, m)
			checkAll(t, x, 30, m, other)
			checkAll(t, x, 31, other)
			checkTick(t, x, 31, m)
			checkTick(t, x, 31)
		}
	}
}

// TestPutOver has the port of a mapping that is over: another one may have it, and
// the former one is gone for all calls.
func TestPutOver(t *testing.T) {
	for k := 2; k <= 4; k++ {
		for former := 1; former <= 3; former++ {
			x := made(t, 2000, 1)
			if former == 1 {
				checkMakeAt(t, x, flow(tcp, 5, 3000), 0, 10, 3000)
			} else {
				put(t, x, 0, kind(former, tcp, 3000, 5, 3000, 10))
			}
			m := kind(k, tcp, 3000, 6, 70, end(k, 90))
			checkPut(t, x, m, 9, api.ETAKEN)
			put(t, x, 10, m)
			checkAll(t, x, 10, m)
			checkPurge(t, x, 5, 0, 0)
			if former != k {
				checkDrop(t, x, tcp, 3000, former, false)
				checkClear(t, x, former, 0)
			}
			checkTick(t, x, 10)
			checkAll(t, x, 10, m)
			checkDrop(t, x, tcp, 3000, k, true)
			checkDrop(t, x, tcp, 3000, k, false)
		}
	}
}

// TestPutOfTheSame has the same mapping put again after it was over: it is added,
// which needs room.
func TestPutOfTheSame(t *testing.T) {
	x := made(t, 2000, 1)
	m := kind(2, udp, 9, 5, 9, 10)
	put(t, x, 0, m)
	put(t, x, 10, kind(2, udp, 8, 5, 9, 20))
	again := kind(2, udp, 9, 5, 9, 30)
	checkPut(t, x, again, 10, api.EFULL)
	checkNoIn(t, x, udp, 9, 10)
	put(t, x, 20, again)
	checkAll(t, x, 20, again)
	checkTick(t, x, 20, kind(2, udp, 8, 5, 9, 20))
	checkTick(t, x, 30, again)
}
