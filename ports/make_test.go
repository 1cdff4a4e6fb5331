package ports_test

import (
	"math"
	"testing"

	"gatehouse/api"
	"gatehouse/ports"
)

// TestMakeWrong has each argument wrong, also of flows that have a mapping and where
// there is no room.
func TestMakeWrong(t *testing.T) {
	for _, room := range []int{1, 9} {
		x := made(t, 2000, room)
		static := kind(4, icmp, 80, 5, 80, 0)
		put(t, x, 0, static)
		for _, proto := range wrongProtos {
			checkNoMake(t, x, flow(proto, 5, 80), 0, 10, api.EARG)
		}
		for _, proto := range protos {
			for _, n := range wrongPorts {
				checkNoMake(t, x, flow(proto, 5, n), 0, 10, api.EARG)
			}
			for _, secs := range []int64{0, -1, -10, 1_000_000_001, 1 << 40, 1 + 1<<32, math.MinInt64, math.MaxInt64} {
				checkNoMake(t, x, flow(proto, 5, 80), 0, secs, api.EARG)
			}
		}
		checkNoMake(t, x, flow(tcp, 5, 0), 0, 10, api.EARG)
		checkNoMake(t, x, flow(udp, 5, 0), 0, 10, api.EARG)
		checkNoMake(t, x, api.Flow{}, 0, 10, api.EARG)
		checkAll(t, x, 0, static)
	}
}

// TestMakeEdges has the least and the greatest of each argument.
func TestMakeEdges(t *testing.T) {
	x := made(t, 2000, 128)
	checkMakeAt(t, x, flow(icmp, 5, 0), 0, 1, 2000)
	checkMakeAt(t, x, flow(icmp, 5, 1), 0, 1, 2001)
	checkMakeAt(t, x, flow(icmp, 5, 65535), 0, 1_000_000_000, 65535)
	checkMakeAt(t, x, flow(tcp, 5, 1), 0, 999_999_999, 2000)
	checkMakeAt(t, x, flow(tcp, 5, 65535), 0, 2, 65535)
	checkMakeAt(t, x, flow(udp, 5, 1), 0, 1_000_000_000, 2000)
	checkMakeAt(t, x, flow(udp, 5, 65535), 0, 1, 65535)
	checkMake(t, x, api.Flow{Proto: udp, Port: 65534}, 0, 1, ports.Map{Proto: udp, Out: 65534, In: 65534, Kind: 1, Until: 1})
	if n := x.Len(0); n != 8 {
		t.Errorf("P17.1: Len: %d", n)
	}
}

// TestOwnPort has the ports that a flow keeps: all from low on that are free.
func TestOwnPort(t *testing.T) {
	for _, proto := range protos {
		for _, low := range []int{1024, 1025, 2000, 32768, 59999, 60000} {
			x := made(t, low, 1)
			for _, port := range []int{low, low + 1, low + 2, 61000, 65534, 65535} {
				checkMakeAt(t, x, flow(proto, 5, port), 0, 10, port)
				checkClear(t, x, 1, 1)
			}
			for _, port := range []int{1, 2, 80, 1023, low - 1, low - 2, low / 2} {
				checkMakeAt(t, x, flow(proto, 5, port), 0, 10, low)
				checkClear(t, x, 1, 1)
			}
		}
	}
}

// TestOwnPortTaken has flows whose own port is that of another mapping of each kind
// of the same protocol; those of other protocols are in nobody's way.
func TestOwnPortTaken(t *testing.T) {
	for _, proto := range protos {
		for k := 1; k <= 4; k++ {
			x := made(t, 2000, 9)
			if k == 1 {
				checkMakeAt(t, x, flow(proto, 6, 3000), 0, 10, 3000)
			} else {
				put(t, x, 0, kind(k, proto, 3000, 6, 7, end(k, 30)))
			}
			for _, other := range protos {
				out := 3000
				if other == proto {
					out = 2000
				}
				checkMakeAt(t, x, flow(other, 5, 3000), 0, 10, out)
			}
		}
	}
}

// TestLeastPort has ports from low on that mappings of all kinds have, with gaps.
func TestLeastPort(t *testing.T) {
	x := made(t, 2000, 128)
	put(t, x, 0, kind(4, tcp, 2001, 9, 1, 0), kind(2, tcp, 2002, 9, 1, 20), kind(3, tcp, 2004, 9, 1, 10), kind(4, udp, 2000, 9, 1, 0), kind(4, tcp, 1999, 9, 1, 0))
	checkMakeAt(t, x, flow(tcp, 5, 80), 0, 5, 2000)
	checkMakeAt(t, x, flow(tcp, 5, 81), 0, 50, 2003)
	checkMakeAt(t, x, flow(tcp, 5, 2004), 0, 50, 2005)
	checkMakeAt(t, x, flow(tcp, 5, 2000), 0, 50, 2006)
	checkMakeAt(t, x, flow(udp, 5, 80), 0, 50, 2001)
	checkMakeAt(t, x, flow(icmp, 5, 80), 0, 50, 2000)
	checkMakeAt(t, x, flow(tcp, 5, 82), 4, 50, 2007)
	checkMakeAt(t, x, flow(tcp, 5, 83), 5, 50, 2000)
	checkMakeAt(t, x, flow(tcp, 5, 84), 10, 50, 2004)
	checkDrop(t, x, tcp, 2001, 4, true)
	checkMakeAt(t, x, flow(tcp, 5, 85), 19, 50, 2001)
	checkMakeAt(t, x, flow(tcp, 5, 86), 20, 50, 2002)
	checkMakeAt(t, x, flow(tcp, 5, 87), 20, 50, 2008)
}

// TestLeastPortOfMany has all room taken from low on, of which any one is free.
func TestLeastPortOfMany(t *testing.T) {
	for _, low := range []int{1024, 60000} {
		for gone := range 128 {
			x := made(t, low, 128)
			for i := range 128 {
				checkMakeAt(t, x, flow(udp, 5, 1+i), 0, 50, low+i)
			}
			checkNoMake(t, x, flow(udp, 6, 1), 0, 50, api.EFULL)
			checkDrop(t, x, udp, low+gone, 1, true)
			checkMakeAt(t, x, flow(udp, 6, 1), 0, 50, low+gone)
			checkNoMake(t, x, flow(udp, 6, 2), 0, 50, api.EFULL)
		}
	}
}

// TestMakeAgain has flows that have a mapping: one that was made for them lives from
// now on, longer or shorter, and others stay as they are.
func TestMakeAgain(t *testing.T) {
	for _, room := range []int{1, 9} {
		for _, proto := range protos {
			x := made(t, 2000, room)
			m := kind(1, proto, 2000, 5, 80, 10)
			checkMake(t, x, flow(proto, 5, 80), 0, 10, m)
			for _, secs := range []int64{10, 11, 9, 1, 1_000_000_000, 5} {
				m.Until = 1 + secs
				checkMake(t, x, flow(proto, 5, 80), 1, secs, m)
				checkAll(t, x, 1, m)
			}
			m.Until = 10
			checkMake(t, x, flow(proto, 5, 80), 5, 5, m)
			checkAll(t, x, 9, m)
			checkMakeAt(t, x, flow(proto, 5, 80), 10, 5, 2000)
			for k := 2; k <= 4; k++ {
				x := made(t, 2000, room)
				m := kind(k, proto, 3000, 5, 80, end(k, 30))
				put(t, x, 0, m)
				for _, secs := range []int64{1, 10, 50, 1_000_000_000} {
					checkMake(t, x, flow(proto, 5, 80), 0, secs, m)
					checkAll(t, x, 0, m)
				}
				checkNoMake(t, x, flow(proto, 5, 80), 0, 0, api.EARG)
			}
		}
	}
}

// TestMakeOfOthers has flows that differ in one thing from one that has a mapping.
func TestMakeOfOthers(t *testing.T) {
	x := made(t, 2000, 128)
	checkMakeAt(t, x, flow(tcp, 5, 80), 0, 10, 2000)
	checkMakeAt(t, x, flow(tcp, 6, 80), 0, 10, 2001)
	checkMakeAt(t, x, flow(tcp, 105, 80), 0, 10, 2002)
	checkMakeAt(t, x, flow(tcp, 5, 81), 0, 10, 2003)
	checkMakeAt(t, x, flow(tcp, 5, 80+256), 0, 10, 2004)
	checkMakeAt(t, x, flow(udp, 5, 80), 0, 10, 2000)
	checkMakeAt(t, x, flow(icmp, 5, 80), 0, 10, 2000)
	put(t, x, 0, kind(3, tcp, 80, 5, 82, 10))
	checkMakeAt(t, x, flow(tcp, 6, 82), 0, 10, 2005)
	checkMakeAt(t, x, flow(udp, 5, 82), 0, 10, 2001)
}

// TestMakeFull has no room for flows without a mapping.
func TestMakeFull(t *testing.T) {
	x := made(t, 2000, 3)
	checkMakeAt(t, x, flow(tcp, 5, 80), 0, 10, 2000)
	checkMakeAt(t, x, flow(udp, 5, 80), 0, 20, 2000)
	put(t, x, 0, kind(4, tcp, 80, 5, 81, 0))
	checkNoMake(t, x, flow(tcp, 6, 80), 9, 10, api.EFULL)
	checkNoMake(t, x, flow(icmp, 5, 3000), 9, 10, api.EFULL)
	checkMake(t, x, flow(tcp, 5, 81), 9, 10, kind(4, tcp, 80, 5, 81, 0))
	checkMake(t, x, flow(udp, 5, 80), 9, 10, kind(1, udp, 2000, 5, 80, 19))
	checkMakeAt(t, x, flow(tcp, 6, 80), 10, 10, 2000)
	checkNoMake(t, x, flow(tcp, 5, 80), 18, 10, api.EFULL)
	checkMakeAt(t, x, flow(tcp, 5, 80), 19, 10, 2001)
	checkAll(t, x, 19, kind(4, tcp, 80, 5, 81, 0), kind(1, tcp, 2000, 6, 80, 20), kind(1, tcp, 2001, 5, 80, 29))
	checkTick(t, x, 19, kind(1, udp, 2000, 5, 80, 19))
}

// TestMakeOver has the port of a mapping that is over made anew: the former one is
// gone for all calls.
func TestMakeOver(t *testing.T) {
	for former := 1; former <= 3; former++ {
		for _, port := range []int{80, 2000} {
			x := made(t, 2000, 1)
			if former == 1 {
				checkMakeAt(t, x, flow(tcp, 5, 80), 0, 10, 2000)
			} else {
				put(t, x, 0, kind(former, tcp, 2000, 5, 80, 10))
			}
			checkNoMake(t, x, flow(tcp, 6, port), 9, 10, api.EFULL)
			checkMakeAt(t, x, flow(tcp, 6, port), 10, 10, 2000)
			checkPurge(t, x, 5, 0, 0)
			if former > 1 {
				checkDrop(t, x, tcp, 2000, former, false)
				checkClear(t, x, former, 0)
			}
			checkTick(t, x, 10)
			checkAll(t, x, 10, kind(1, tcp, 2000, 6, port, 20))
			checkDrop(t, x, tcp, 2000, 1, true)
			checkTick(t, x, 50)
		}
	}
}

// TestOutOrder has each set of kinds for a flow, whose ports are in each order: one
// of kind 4 comes first, then those of kind 1, 2 and 3.
func TestOutOrder(t *testing.T) {
	order := []int{4, 1, 2, 3}
	for set := 1; set < 16; set++ {
		for turn := range 4 {
			for _, proto := range protos {
				x := made(t, 3000, 9)
				maps := map[int]ports.Map{}
				if set&1 != 0 {
					m, _ := x.Make(flow(proto, 5, 80), 0, 100)
					maps[1] = m
				}
				for k := 2; k <= 4; k++ {
					if set>>(k-1)&1 != 0 {
						maps[k] = kind(k, proto, []int{2998, 2999, 3500, 3501}[(k+turn)%4], 5, 80, end(k, 100))
						put(t, x, 0, maps[k])
					}
				}
				for _, k := range order {
					if m, has := maps[k]; has {
						checkOut(t, x, flow(proto, 5, 80), 0, m)
						if k != 1 {
							checkMake(t, x, flow(proto, 5, 80), 0, 100, m)
						}
						checkDrop(t, x, proto, m.Out, k, true)
					}
				}
				checkNoOut(t, x, flow(proto, 5, 80), 0)
			}
		}
	}
}

// TestOutLeast has several of one kind, put in several orders.
func TestOutLeast(t *testing.T) {
	for k := 2; k <= 4; k++ {
		for _, outs := range [][]int{{2, 4, 6}, {6, 4, 2}, {4, 6, 2}, {65535, 2, 256}, {1000, 2000, 1024}, {90, 80, 256}} {
			x := made(t, 3000, 9)
			var l []ports.Map
			for i, out := range outs {
				m := kind(k, tcp, out, 5, 80, end(k, int64(100-i)))
				put(t, x, 0, m, kind(k, udp, out, 5, 80, m.Until), kind(k, tcp, out-1, 6, 80, m.Until))
				l = append(l, m)
			}
			for len(l) > 0 {
				best := 0
				for i := range l {
					if l[i].Out < l[best].Out {
						best = i
					}
				}
				checkOut(t, x, flow(tcp, 5, 80), 0, l[best])
				checkDrop(t, x, tcp, l[best].Out, k, true)
				l = append(l[:best], l[best+1:]...)
			}
			checkNoOut(t, x, flow(tcp, 5, 80), 0)
		}
	}
}

// TestOutOver has better ones that end before the others.
func TestOutOver(t *testing.T) {
	x := made(t, 3000, 9)
	checkMakeAt(t, x, flow(udp, 5, 80), 0, 10, 3000)
	two, three, four := kind(2, udp, 9, 5, 80, 20), kind(2, udp, 12, 5, 80, 30), kind(3, udp, 1, 5, 80, 40)
	put(t, x, 0, two, three, four)
	checkOut(t, x, flow(udp, 5, 80), 9, kind(1, udp, 3000, 5, 80, 10))
	checkOut(t, x, flow(udp, 5, 80), 10, two)
	checkOut(t, x, flow(udp, 5, 80), 19, two)
	checkOut(t, x, flow(udp, 5, 80), 20, three)
	checkOut(t, x, flow(udp, 5, 80), 29, three)
	checkOut(t, x, flow(udp, 5, 80), 30, four)
	checkOut(t, x, flow(udp, 5, 80), 39, four)
	checkNoOut(t, x, flow(udp, 5, 80), 40)
	checkMakeAt(t, x, flow(udp, 5, 80), 40, 10, 3000)
}

// TestOutOfOthers has flows that no mapping is for, and wrong ones.
func TestOutOfOthers(t *testing.T) {
	x := made(t, 3000, 128)
	for _, proto := range protos {
		put(t, x, 0, kind(2, proto, 90, 5, 80, 50))
		for _, n := range append([]int{79, 81, 90, 336, 0}, wrongPorts...) {
			checkNoOut(t, x, flow(proto, 5, n), 0)
		}
		checkNoOut(t, x, flow(proto, 6, 80), 0)
		checkNoOut(t, x, flow(proto, 105, 80), 0)
		checkOut(t, x, flow(proto, 5, 80), 0, kind(2, proto, 90, 5, 80, 50))
	}
	for _, proto := range wrongProtos {
		checkNoOut(t, x, flow(proto, 5, 80), 0)
	}
	checkNoOut(t, x, api.Flow{}, 0)
	put(t, x, 0, kind(2, icmp, 0, 5, 0, 50))
	checkOut(t, x, flow(icmp, 5, 0), 0, kind(2, icmp, 0, 5, 0, 50))
}

// TestIn has mappings of one port in each protocol, till each of them is over.
func TestIn(t *testing.T) {
	x := made(t, 3000, 128)
	l := []ports.Map{kind(2, icmp, 80, 5, 1, 10), kind(3, tcp, 80, 6, 2, 20), kind(4, udp, 80, 7, 3, 0), kind(1, udp, 3000, 5, 1, 30), kind(2, icmp, 0, 5, 0, 40), kind(3, udp, 65535, 5, 65535, 50)}
	put(t, x, 0, l[0], l[1], l[2], l[4], l[5])
	checkMake(t, x, flow(udp, 5, 1), 0, 30, l[3])
	for now := range int64(60) {
		for _, m := range l {
			if now < m.Until || m.Until == 0 {
				checkIn(t, x, now, m)
			} else {
				checkNoIn(t, x, m.Proto, m.Out, now)
			}
		}
		checkNoIn(t, x, tcp, 3000, now)
		checkNoIn(t, x, tcp, 0, now)
		checkNoIn(t, x, udp, 79, now)
		checkNoIn(t, x, udp, 81, now)
		checkNoIn(t, x, udp, 336, now)
	}
	for _, proto := range wrongProtos {
		checkNoIn(t, x, proto, 80, 0)
	}
	for _, n := range wrongPorts {
		checkNoIn(t, x, udp, n, 0)
	}
}

// TestLive has times that are later than the Until of a mapping for a flow, and
// such that are not.
func TestLive(t *testing.T) {
	for _, proto := range protos {
		x := made(t, 3000, 9)
		checkMakeAt(t, x, flow(proto, 5, 80), 0, 10, 3000)
		for secs := range int64(11) {
			checkLive(t, x, proto, 3000, 0, secs, false)
		}
		checkAll(t, x, 0, kind(1, proto, 3000, 5, 80, 10))
		checkLive(t, x, proto, 3000, 0, 11, true)
		checkAll(t, x, 0, kind(1, proto, 3000, 5, 80, 11))
		checkLive(t, x, proto, 3000, 0, 11, false)
		checkLive(t, x, proto, 3000, 10, 1, false)
		checkLive(t, x, proto, 3000, 10, 2, true)
		checkIn(t, x, 11, kind(1, proto, 3000, 5, 80, 12))
		checkLive(t, x, proto, 3000, 11, 1_000_000_000, true)
		checkOut(t, x, flow(proto, 5, 80), 11, kind(1, proto, 3000, 5, 80, 1_000_000_011))
		for _, secs := range []int64{1_000_000_001, 1 << 40, math.MaxInt64, math.MinInt64, 0, -1} {
			checkLive(t, x, proto, 3000, 500, secs, false)
		}
		checkIn(t, x, 500, kind(1, proto, 3000, 5, 80, 1_000_000_011))
		checkLive(t, x, proto, 3000, 1_000_000_011, 5, false)
		checkNoIn(t, x, proto, 3000, 1_000_000_011)
		checkTick(t, x, 1_000_000_011, kind(1, proto, 3000, 5, 80, 1_000_000_011))
	}
}

// TestLiveOfOthers has mappings of other kinds, which do not change, and none.
func TestLiveOfOthers(t *testing.T) {
	x := made(t, 3000, 9)
	l := []ports.Map{kind(2, tcp, 80, 5, 80, 10), kind(3, tcp, 81, 5, 80, 10), kind(4, tcp, 82, 5, 80, 0), kind(1, udp, 3000, 5, 80, 10)}
	put(t, x, 0, l[:3]...)
	checkMake(t, x, flow(udp, 5, 80), 0, 10, l[3])
	for _, secs := range []int64{1, 10, 11, 1000, 1_000_000_000} {
		for _, m := range l[:3] {
			checkLive(t, x, m.Proto, m.Out, 0, secs, false)
		}
		checkLive(t, x, tcp, 3000, 0, secs, false)
		checkLive(t, x, icmp, 3000, 0, secs, false)
		checkLive(t, x, udp, 3001, 0, secs, false)
		checkLive(t, x, udp, 80, 0, secs, false)
		checkLive(t, x, udp, 3000+65536, 0, secs, false)
		checkLive(t, x, 0, 3000, 0, secs, false)
		checkLive(t, x, math.MinInt, math.MaxInt, 0, secs, false)
	}
	checkAll(t, x, 0, l...)
}
