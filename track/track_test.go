package track_test

import (
	"math"
	"testing"

	"gatehouse/api"
	"gatehouse/ip4"
	"gatehouse/tcp"
	"gatehouse/track"
)

const (
	fin = 1
	syn = 2
	rst = 4
	psh = 8
	ack = 16
	urg = 32
)

// outward and inward are the directions.
const (
	outward = false
	inward  = true
)

// talk names a connection.
type talk struct {
	out  int
	peer api.Addr
	port int
}

// usual is the connection of the tests that need only one.
func usual() talk { return talk{40000, peer(8), 80} }

func peer(n int) api.Addr { return api.Addr{9, 8, byte(n >> 8), byte(n)} }

// step is a segment of a connection, with its direction.
type step struct {
	flags  int
	inward bool
}

// turned returns the steps of l, each in the other direction.
func turned(l []step) []step {
	var m []step
	for _, s := range l {
		m = append(m, step{s.flags, !s.inward})
	}
	return m
}

func made(t *testing.T, room int) *track.Table {
	t.Helper()
	x, e := track.New(room)
	if e != api.OK || x == nil {
		t.Fatalf("P18.1: New(%d): %v, %d", room, x, e)
	}
	return x
}

func see(x *track.Table, k talk, s step) int {
	return x.See(k.out, k.peer, k.port, s.inward, tcp.Segment{Flags: s.flags})
}

// checkSee has a segment, and the state that See and then State return.
func checkSee(t *testing.T, x *track.Table, k talk, s step, is int) {
	t.Helper()
	if n := see(x, k, s); n != is {
		t.Errorf("P18.1: See(%v, %v): %d instead of %d", k, s, n, is)
	}
	checkState(t, x, k, is)
}

func checkState(t *testing.T, x *track.Table, k talk, is int) {
	t.Helper()
	if n := x.State(k.out, k.peer, k.port); n != is {
		t.Errorf("P18.1: State(%v): %d instead of %d", k, n, is)
	}
}

func checkLen(t *testing.T, x *track.Table, is int) {
	t.Helper()
	if n := x.Len(); n != is {
		t.Errorf("P18.1: Len: %d instead of %d", n, is)
	}
}

// wrongRooms are those that New refuses.
var wrongRooms = []int{math.MinInt, -257, -256, -128, -1, 0, 257, 258, 512, 1 << 8 << 8, 1<<32 + 1, math.MaxInt}

func TestNew(t *testing.T) {
	for _, room := range wrongRooms {
		if x, e := track.New(room); x != nil || e != api.EARG {
			t.Errorf("P18.1, R2: New(%d): %v, %d", room, x, e)
		}
	}
	for room := 1; room <= 256; room++ {
		x := made(t, room)
		checkLen(t, x, 0)
		checkState(t, x, usual(), 0)
	}
}

// TestExample has the example of the chapter.
func TestExample(t *testing.T) {
	x := made(t, 1)
	checkSee(t, x, usual(), step{syn, outward}, 1)
	checkSee(t, x, usual(), step{syn | ack, inward}, 2)
	checkSee(t, x, usual(), step{ack, outward}, 3)
}

// ways are steps that lead to a state, as they are if the direction that counts
// in that state is outward: that in which the connection was begun in state 1, and
// that of the first FIN in state 4.
var ways = []struct {
	state int
	steps []step
}{
	{0, nil},
	{0, []step{{ack, outward}, {rst, inward}, {fin, inward}, {syn | ack, inward}, {syn | rst, outward}}},
	{1, []step{{syn, outward}}},
	{1, []step{{syn | fin, outward}}},
	{1, []step{{syn, outward}, {syn, outward}, {syn | ack, outward}, {ack, inward}, {ack, outward}, {0, inward}}},
	{1, []step{{syn, inward}, {rst, inward}, {syn, outward}}},
	{1, []step{{syn, inward}, {rst, outward}, {syn | fin, outward}}},
	{1, []step{{syn, inward}, {fin, inward}, {rst, inward}, {syn, outward}}},
	{2, []step{{syn, outward}, {syn | ack, inward}}},
	{2, []step{{syn, outward}, {syn, inward}}},
	{2, []step{{syn, outward}, {syn, inward}, {syn | ack, inward}, {syn | ack, outward}, {syn, outward}}},
	{2, []step{{syn, inward}, {rst, inward}, {syn, outward}, {syn, inward}}},
	{3, []step{{syn, outward}, {syn | ack, inward}, {ack, outward}}},
	{3, []step{{syn, outward}, {syn, inward}, {ack, inward}}},
	{3, []step{{syn, inward}, {syn | ack, outward}, {ack | psh, inward}, {syn, inward}, {syn, outward}, {syn | ack, outward}}},
	{4, []step{{syn, outward}, {fin, outward}}},
	{4, []step{{syn, inward}, {fin, outward}}},
	{4, []step{{syn, inward}, {syn | fin, outward}}},
	{4, []step{{syn, outward}, {syn | fin | ack, outward}, {syn, inward}, {ack, outward}}},
	{4, []step{{syn, outward}, {syn, inward}, {fin, outward}}},
	{4, []step{{syn, inward}, {syn, outward}, {fin | ack, outward}}},
	{4, []step{{syn, outward}, {syn, inward}, {fin | syn | ack, outward}}},
	{4, []step{{syn, outward}, {syn | ack, inward}, {ack, outward}, {fin | ack, outward}}},
	{4, []step{{syn, inward}, {syn | ack, outward}, {ack, inward}, {fin, outward}, {fin, outward}, {ack, inward}, {syn, inward}}},
	{4, []step{{syn, outward}, {fin, inward}, {fin, outward}, {rst, inward}, {syn, inward}, {fin, outward}}},
	{5, []step{{syn, outward}, {fin, outward}, {fin, inward}}},
	{5, []step{{syn, outward}, {fin, inward}, {fin, outward}}},
	{5, []step{{syn, outward}, {syn | ack, inward}, {ack, outward}, {fin | ack, outward}, {fin | ack, inward}, {ack, outward}, {syn, outward}, {fin, inward}}},
	{6, []step{{syn, outward}, {rst, inward}}},
	{6, []step{{syn, outward}, {syn, inward}, {rst, outward}}},
	{6, []step{{syn, outward}, {syn, inward}, {ack, inward}, {rst | ack, outward}}},
	{6, []step{{syn, outward}, {fin, inward}, {rst | fin, outward}}},
	{6, []step{{syn, outward}, {fin, inward}, {fin, outward}, {rst, inward}, {rst, inward}, {fin, outward}, {ack, inward}, {syn | ack, inward}, {syn | rst, inward}}},
}

// nexts are the states to which each state leads, for a segment in the direction
// that counts and for one in the other direction. Their digits are those of the
// segments with no flag, FIN, SYN, FIN and SYN, each of these without RST and with
// it, and all of these without ACK and with it.
var nexts = [][2]string{
	{"0011000000000000", "0011000000000000"},
	{"1414666614146666", "1424666614246666"},
	{"2424666634246666", "2424666634246666"},
	{"3434666634346666", "3434666634346666"},
	{"4444666644446666", "4545666645456666"},
	{"5555666655556666", "5555666655556666"},
	{"6611666666666666", "6611666666666666"},
}

// next returns the state to which nexts leads, and the direction that counts there.
func next(state int, counts bool, s step) (int, bool) {
	other := 0
	if s.inward != counts {
		other = 1
	}
	is := int(nexts[state][other][s.flags&7|s.flags&ack>>1] - '0')
	if is != state && (is == 1 || is == 4) {
		return is, s.inward
	}
	return is, counts
}

// walk returns a table in which the usual connection has gone these steps.
func walk(t *testing.T, steps []step, state int) *track.Table {
	t.Helper()
	x := made(t, 2)
	for _, s := range steps {
		see(x, usual(), s)
	}
	checkState(t, x, usual(), state)
	return x
}

// checkNext has one more step of the usual connection.
func checkNext(t *testing.T, steps []step, state int, counts bool, s step) {
	t.Helper()
	x := walk(t, steps, state)
	is, _ := next(state, counts, s)
	checkSee(t, x, usual(), s, is)
	checkLen(t, x, min(is, 1))
	if t.Failed() {
		t.Fatalf("P18.1: so after %v in state %d", steps, state)
	}
}

// TestNexts has each way to a state, in both directions, and then a segment with
// any flags in any direction.
func TestNexts(t *testing.T) {
	for _, way := range ways {
		for flags := range 64 {
			for _, in := range []bool{outward, inward} {
				checkNext(t, way.steps, way.state, outward, step{flags, in})
				checkNext(t, turned(way.steps), way.state, inward, step{flags, in})
			}
		}
	}
}

// TestNextsOfNexts has two segments with any of the flags that count after each
// way: what the first one leads to must have the right direction.
func TestNextsOfNexts(t *testing.T) {
	var segments []step
	for i := range 16 {
		flags := i&7 | i&8<<1
		segments = append(segments, step{flags, outward}, step{flags, inward})
	}
	for _, way := range ways {
		for _, first := range segments {
			state, counts := next(way.state, outward, first)
			steps := append(append([]step{}, way.steps...), first)
			for _, second := range segments {
				checkNext(t, steps, state, counts, second)
				checkNext(t, turned(steps), state, !counts, second)
			}
		}
	}
}

// TestOtherFlags has numbers as Flags that are no sum of flags: only the bits of
// flags count.
func TestOtherFlags(t *testing.T) {
	for _, more := range []int{psh, urg, psh | urg, 64, 128, 192, 256, 1 << 20, math.MinInt, math.MaxInt &^ 63, -64} {
		for _, way := range ways {
			for flags := range 64 {
				s := step{flags | more, inward}
				checkNext(t, way.steps, way.state, outward, s)
				checkNext(t, turned(way.steps), way.state, inward, s)
			}
		}
	}
}

// parsed returns the segment that tcp reads from the packet that it writes.
func parsed(t *testing.T, s tcp.Segment) tcp.Segment {
	t.Helper()
	p, e := tcp.Put(ip4.Packet{Ttl: 64, From: peer(1), To: peer(2)}, s)
	if e != api.OK {
		t.Fatalf("tcp.Put(%v): %d", s, e)
	}
	s, e = tcp.Get(p)
	if e != api.OK {
		t.Fatalf("tcp.Get: %d", e)
	}
	return s
}

// TestParsed has a whole talk of segments that were parsed.
func TestParsed(t *testing.T) {
	x := made(t, 1)
	k := usual()
	host := tcp.Segment{From: 5000, To: 80, Seq: 7, Window: 1000}
	server := tcp.Segment{From: 80, To: k.out, Seq: 9, Window: 1000}
	for i, c := range []struct {
		from  tcp.Segment
		flags int
		body  string
		opts  []byte
		is    int
	}{
		{host, syn, "", []byte{2, 4, 5, 180}, 1},
		{server, syn | ack, "", []byte{2, 4, 5, 180}, 2},
		{host, ack, "", nil, 3},
		{host, ack | psh, "a question", nil, 3},
		{server, ack | psh | urg, "an answer", nil, 3},
		{server, fin | ack, "its end", nil, 4},
		{host, ack, "more", nil, 4},
		{host, fin | ack, "", nil, 5},
		{server, ack, "", nil, 5},
		{host, rst, "", nil, 6},
	} {
		s := c.from
		s.Flags, s.Body, s.Opts = c.flags, []byte(c.body), c.opts
		if n := x.See(k.out, k.peer, k.port, c.from.From == 80, parsed(t, s)); n != c.is {
			t.Errorf("P18.1: segment %d: %d instead of %d", i, n, c.is)
		}
	}
	checkLen(t, x, 1)
}

// TestSecs has each state with numbers about the greatest one for it.
func TestSecs(t *testing.T) {
	most := map[int]int{
		0: 60, 1: 240, 2: 240, 3: math.MaxInt, 4: 240, 5: 10, 6: 10,
		7: 60, 8: 60, 9: 60, 16: 60, 19: 60, 256: 60, 259: 60, 1<<32 + 3: 60, math.MaxInt: 60,
		-1: 60, -2: 60, -3: 60, -4: 60, -5: 60, -6: 60, math.MinInt: 60,
	}
	longs := []int{
		math.MinInt, -1 << 32, -7200, -240, -60, -10, -1, 0, 1, 5, 9, 10, 11, 12, 30, 59, 60, 61, 100,
		239, 240, 241, 300, 3600, 7200, 86400, 1 << 31, 1 << 32, 1<<32 + 5, math.MaxInt,
	}
	for state, n := range most {
		for _, long := range longs {
			is := int64(long)
			if long > n {
				is = int64(n)
			}
			if secs := track.Secs(state, long); secs != is {
				t.Errorf("P18.2: Secs(%d, %d): %d instead of %d", state, long, secs, is)
			}
		}
	}
}

// TestSecsNearBy has all small numbers, for the edges between them.
func TestSecsNearBy(t *testing.T) {
	most := []int{60, 240, 240, 500, 240, 10, 10, 60}
	for state, n := range most {
		for long := -50; long <= 500; long++ {
			if secs := track.Secs(state, long); secs != int64(min(n, long)) {
				t.Errorf("P18.2: Secs(%d, %d): %d", state, long, secs)
			}
		}
	}
}
