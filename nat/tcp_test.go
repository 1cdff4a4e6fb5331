package nat_test

import (
	"testing"

	"gatehouse/api"
	"gatehouse/nat"
	"gatehouse/ports"
	"gatehouse/track"
)

// step is a segment of a connection, with its direction.
type step struct {
	flags  int
	inward bool
}

// talks are segments of connections with the time at each of them, and the time
// until which the mapping lives after it, if an established one lives for tcpSecs.
var talks = [][]struct {
	step
	now, until int64
}{
	{{step{syn, false}, 0, 240}, {step{syn | ack, true}, 1, 241}, {step{ack, false}, 2, 5002}, {step{ack | psh, true}, 3, 5003}, {step{fin | ack, false}, 4, 244}, {step{ack, true}, 5, 245}, {step{fin | ack, true}, 6, 245}, {step{ack, false}, 7, 17}, {step{ack, true}, 8, 18}},
	{{step{ack, false}, 0, 60}, {step{syn | ack, false}, 1, 61}, {step{rst, true}, 2, 62}, {step{fin, true}, 3, 63}, {step{syn, true}, 4, 244}, {step{syn, false}, 5, 245}, {step{rst, true}, 6, 245}, {step{ack, false}, 7, 17}, {step{syn, false}, 8, 248}},
	{{step{syn, false}, 0, 240}, {step{syn, false}, 9, 249}, {step{ack, false}, 10, 250}, {step{fin, true}, 11, 251}, {step{fin, true}, 12, 252}, {step{fin, false}, 13, 23}},
	{{step{syn, false}, 0, 240}, {step{syn | ack, true}, 1, 241}, {step{ack, false}, 2, 5002}, {step{rst, false}, 3, 13}, {step{ack, true}, 4, 14}, {step{syn, true}, 5, 245}},
	{{step{syn | urg | psh, false}, 0, 240}, {step{syn, true}, 1, 241}, {step{ack, true}, 2, 5002}, {step{fin, true}, 3, 5002}, {step{0, true}, 4, 5002}, {step{0, false}, 5, 245}, {step{fin, true}, 6, 246}, {step{fin, false}, 7, 17}},
}

// TestTalks has connections of a host whose port is another one outside.
func TestTalks(t *testing.T) {
	for _, talk := range talks {
		g := made(t, roomy, usual())
		for _, s := range talk {
			w, p, want := out(), segment(host(5), 5000, peer(1), far, s.flags), segment(wan(), low, peer(1), far, s.flags)
			if s.inward {
				w, p, want = in(), segment(peer(1), far, wan(), low, s.flags), segment(peer(1), far, host(5), 5000, s.flags)
			}
			checkGives(t, w, g, p, s.now, want)
			checkUntil(t, g, api.TCP, low, s.now, s.until)
		}
	}
}

// TestOthersTalk has an established connection, and segments of others that end
// their own alone: with another peer, another port of the peer, of another port and
// of another host.
func TestOthersTalk(t *testing.T) {
	g := made(t, roomy, usual())
	establish(t, g, 5000, low, peer(1), far, 0)
	checkGives(t, out(), g, segment(host(5), 5000, peer(2), far, syn), 0, segment(wan(), low, peer(2), far, syn))
	checkGives(t, out(), g, segment(host(5), 5000, peer(2), far, rst), 0, segment(wan(), low, peer(2), far, rst))
	checkGives(t, in(), g, segment(peer(1), far+1, wan(), low, syn), 0, segment(peer(1), far+1, host(5), 5000, syn))
	checkGives(t, in(), g, segment(peer(1), far+1, wan(), low, rst), 0, segment(peer(1), far+1, host(5), 5000, rst))
	checkGives(t, out(), g, segment(host(5), 5001, peer(1), far, syn), 0, segment(wan(), low+1, peer(1), far, syn))
	checkGives(t, out(), g, segment(host(5), 5001, peer(1), far, rst), 0, segment(wan(), low+1, peer(1), far, rst))
	checkGives(t, out(), g, segment(host(6), 5000, peer(1), far, syn), 0, segment(wan(), low+2, peer(1), far, syn))
	checkGives(t, in(), g, segment(peer(1), far, wan(), low+2, rst), 0, segment(peer(1), far, host(6), 5000, rst))
	checkEstablished(t, g, 5000, low, peer(1), far, 1, true)
	checkGives(t, out(), g, segment(host(5), 5001, peer(1), far, ack), 1, segment(wan(), low+1, peer(1), far, ack))
	checkUntil(t, g, api.TCP, low+1, 1, 11)
}

// TestRefusedAreNotSeen has segments that Nat refuses: track sees none of them.
func TestRefusedAreNotSeen(t *testing.T) {
	g := made(t, 1, usual())
	establish(t, g, 5000, low, peer(1), far, 0)
	broken := segment(host(5), 5000, peer(1), far, rst)
	checkRefuses(t, out(), g, flipped(broken, 0), 0, api.ESUM)
	broken.Part = 1
	checkRefuses(t, out(), g, broken, 0, api.EFRAG)
	checkRefuses(t, out(), g, segment(host(6), low, peer(1), far, rst), 0, api.EFULL)
	broken = segment(peer(1), far, wan(), low, rst)
	checkRefuses(t, in(), g, flipped(broken, 0), 0, api.ESUM)
	broken.Flags = 1
	checkRefuses(t, in(), g, broken, 0, api.EFRAG)
	checkRefuses(t, in(), g, segment(peer(1), far, host(5), low, rst), 0, api.EDENY)
	checkEstablished(t, g, 5000, low, peer(1), far, 1, true)
	g.maps.Clear(flow)
	checkRefuses(t, in(), g, segment(peer(1), far, wan(), low, rst), 1, api.ENONE)
	checkEstablished(t, g, 5000, low, peer(1), far, 2, true)
}

// TestRefusedTakeNoRoom has as many connections as there is room for, and then SYNs
// that Nat refuses: none takes the place of the first one.
func TestRefusedTakeNoRoom(t *testing.T) {
	const room = 128
	g := made(t, 1, usual())
	for n := range room {
		establish(t, g, 5000, low, peer(n), far, 0)
	}
	for n := range room {
		to := peer(room + n%100)
		checkRefuses(t, out(), g, segment(host(5), 0, to, far, syn), 0, api.EARG)
		checkRefuses(t, out(), g, segment(host(5), 5001, to, far, syn), 0, api.EFULL)
		checkRefuses(t, in(), g, segment(to, far, wan(), low+1, syn), 0, api.ENONE)
		checkRefuses(t, in(), g, segment(to, far, host(5), low, syn), 0, api.EDENY)
		checkRefuses(t, out(), g, flipped(segment(host(5), 5000, to, far, syn), 99), 0, api.ESUM)
		checkRefuses(t, in(), g, flipped(segment(to, far, wan(), low, syn), 99), 0, api.ESUM)
	}
	for n := range room {
		checkEstablished(t, g, 5000, low, peer(n), far, int64(n), true)
	}
}

// TestSecondsOfStates has all states with seconds at all edges.
func TestSecondsOfStates(t *testing.T) {
	ways := [][]step{
		{},
		{{syn, false}},
		{{syn, true}, {syn, false}},
		{{syn, true}, {syn | ack, false}, {ack, true}},
		{{syn, true}, {fin, true}},
		{{syn, true}, {fin, true}, {fin, false}},
		{{syn, true}, {rst, true}},
	}
	for _, long := range []int{10, 11, 59, 60, 61, 239, 240, 241, 5000, 86400} {
		for state, way := range ways {
			for _, last := range []step{{psh, false}, {psh, true}} {
				g := made(t, roomy, nat.Times{Udp: 10, Tcp: long, Icmp: 10})
				g.maps.Make(api.Flow{Proto: api.TCP, Addr: host(5), Port: low}, 0, 1)
				for _, s := range append(way, last) {
					w, p, want := out(), segment(host(5), low, peer(1), far, s.flags), segment(wan(), low, peer(1), far, s.flags)
					if s.inward {
						w, p, want = in(), segment(peer(1), far, wan(), low, s.flags), segment(peer(1), far, host(5), low, s.flags)
					}
					g.maps.Make(api.Flow{Proto: api.TCP, Addr: host(5), Port: low}, 0, 1)
					checkGives(t, w, g, p, 0, want)
				}
				checkUntil(t, g, api.TCP, low, 0, track.Secs(state, long))
			}
		}
	}
}

// TestStaticTalks has a connection of a static mapping, whose state shows once there
// is one of a flow at the same port.
func TestStaticTalks(t *testing.T) {
	g := made(t, roomy, usual())
	m := ports.Map{Proto: api.TCP, Out: low, Addr: host(5), In: 5000, Kind: static}
	g.put(t, m)
	establish(t, g, 5000, low, peer(1), far, 0)
	checkMaps(t, g, 0, m)
	g.maps.Clear(static)
	checkEstablished(t, g, 5000, low, peer(1), far, 1, true)
	checkEstablished(t, g, 5000, low, peer(2), far, 2, false)
}
