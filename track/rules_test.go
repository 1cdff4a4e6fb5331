package track_test

import (
	"math"
	"slices"
	"testing"

	"gatehouse/api"
	"gatehouse/tcp"
	"gatehouse/track"
)

// TestArgumentsStay has segments with lists: they are the same after the call, with
// their spare capacity, and a change of them afterwards changes nothing.
func TestArgumentsStay(t *testing.T) {
	for _, way := range ways {
		x := made(t, 1)
		for _, s := range way.steps {
			body, opts := []byte("abcdefgh"), []byte("12345678")
			given := tcp.Segment{Flags: s.flags, Body: body[:4], Opts: opts[:4]}
			x.See(usual().out, usual().peer, usual().port, s.inward, given)
			if string(body) != "abcdefgh" || string(opts) != "12345678" || len(given.Body) != 4 || len(given.Opts) != 4 {
				t.Errorf("R4: %v changes %q, %q", s, body, opts)
			}
			clear(body)
			clear(opts)
		}
		checkState(t, x, usual(), way.state)
	}
}

// TestOnlyFlagsCount has segments whose other fields have any values: they change
// nothing, and their ports name no connection.
func TestOnlyFlagsCount(t *testing.T) {
	segments := []tcp.Segment{
		{},
		{From: 40000, To: 80, Seq: 1, Ack: 2, Window: 3, Urgent: 4, Opts: []byte{1}, Body: []byte{2}},
		{From: 80, To: 40000, Seq: math.MaxUint32, Ack: math.MaxUint32, Window: 65535, Urgent: 65535},
		{From: -1, To: math.MinInt, Window: math.MinInt, Urgent: math.MaxInt, Opts: make([]byte, 41), Body: make([]byte, 2000)},
		{From: 81, To: 40001, Opts: []byte{}, Body: []byte{}},
	}
	for _, way := range ways {
		for shift := range segments {
			x := made(t, 1)
			for i, s := range way.steps {
				given := segments[(i+shift)%len(segments)]
				given.Flags = s.flags
				x.See(usual().out, usual().peer, usual().port, s.inward, given)
			}
			checkState(t, x, usual(), way.state)
			checkState(t, x, talk{40001, usual().peer, 81}, 0)
			checkLen(t, x, min(1, way.state))
		}
	}
}

// TestQuestionsChangeNothing has questions between all steps.
func TestQuestionsChangeNothing(t *testing.T) {
	asked := func(x *track.Table) {
		x.Len()
		x.State(usual().out, usual().peer, usual().port)
		x.State(-1, api.Addr{}, math.MaxInt)
		x.State(number(0).out, number(0).peer, number(0).port)
		track.Secs(3, 5)
		track.New(1)
		track.New(0)
	}
	for _, way := range ways {
		x := made(t, 1)
		asked(x)
		for _, s := range way.steps {
			see(x, usual(), s)
			asked(x)
		}
		checkState(t, x, usual(), way.state)
		checkLen(t, x, min(1, way.state))
	}
	x := filled(t, 1, 1, 1)
	for n := 2; n >= 0; n-- {
		checkState(t, x, number(n), 1)
		asked(x)
	}
	checkLeave(t, x, 0, 1, 2)
}

// TestTablesAreApart has the same connections in several tables at different states.
func TestTablesAreApart(t *testing.T) {
	var tables []*track.Table
	for range ways {
		tables = append(tables, made(t, 2))
	}
	for i := range 20 {
		for n, way := range ways {
			if i < len(way.steps) {
				see(tables[n], usual(), way.steps[i])
			}
		}
	}
	tables[0].Forget(usual().out)
	for n, way := range ways {
		checkState(t, tables[n], usual(), way.state)
		checkLen(t, tables[n], min(1, way.state))
	}
}

// TestSameCallsSameResults has the same calls for two tables.
func TestSameCallsSameResults(t *testing.T) {
	results := func() []int {
		var l []int
		d := dice(5)
		x := made(t, 4)
		for range 3000 {
			l = append(l, see(x, talk{d.roll(4), peer(d.roll(3)), d.roll(2)}, d.step()), x.Len())
		}
		return l
	}
	if !slices.Equal(results(), results()) {
		t.Errorf("R5: other results of the same calls")
	}
}

// TestAllArguments has odd numbers for all arguments: each call ends without panic,
// and no table exceeds its room.
func TestAllArguments(t *testing.T) {
	odd := []int{math.MinInt, math.MinInt32, -1, 0, 1, 2, 3, 17, 65535, 65536, math.MaxInt32, math.MaxInt}
	for _, room := range []int{1, 2, 256} {
		x := made(t, room)
		for _, out := range odd {
			for _, port := range odd {
				for _, flags := range odd {
					n := x.See(out, api.Addr{}, port, flags < 0, tcp.Segment{Flags: flags})
					if n < 0 || n > 6 || n != x.State(out, api.Addr{}, port) || x.Len() > room {
						t.Errorf("P18.1: See of %d, %d, %d: %d with %d of %d", out, port, flags, n, x.Len(), room)
					}
				}
				track.Secs(out, port)
			}
		}
		for _, out := range odd {
			x.Forget(out)
		}
		checkLen(t, x, 0)
	}
}
