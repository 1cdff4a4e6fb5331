package serve_test

import (
	"math"
	"reflect"
	"slices"
	"testing"

	"gatehouse/api"
	"gatehouse/conf"
	"gatehouse/dhcp"
	"gatehouse/opt"
	"gatehouse/pool"
	"gatehouse/serve"
)

func getting(m dhcp.Message) func(s *serve.Server, now int64) {
	return func(s *serve.Server, now int64) { s.Get(m, now) }
}

// calls are those with a time. Those that count call the pool with it, so that each
// of them lets it go by, even if nothing is found or changed.
var calls = []struct {
	name   string
	counts bool
	call   func(s *serve.Server, now int64)
}{
	{"a DISCOVER", true, getting(message(discover, 5))},
	{"a DISCOVER of a fixed one", true, getting(message(discover, 9))},
	{"a REQUEST", true, getting(message(request, 5, want(at(103))))},
	{"a REQUEST with Client", true, getting(client(message(request, 5), at(103)))},
	{"a REQUEST that is refused", true, getting(message(request, 5, want(at(1))))},
	{"a DECLINE", true, getting(message(decline, 2, want(at(101))))},
	{"a DECLINE of another's", true, getting(message(decline, 5, want(at(101))))},
	{"a DECLINE of nothing", true, getting(message(decline, 5))},
	{"Tick", true, func(s *serve.Server, now int64) { s.Tick(now) }},
	{"All", true, func(s *serve.Server, now int64) { s.All(now) }},
	{"Holds", true, func(s *serve.Server, now int64) { s.Holds(at(101), now) }},
	{"Holds of none", true, func(s *serve.Server, now int64) { s.Holds(at(50), now) }},
	{"Holds of a fixed one", false, func(s *serve.Server, now int64) { s.Holds(at(9), now) }},
	{"Holds of a fixed one in the pool", false, func(s *serve.Server, now int64) { s.Holds(at(102), now) }},
	{"a REQUEST to another server", false, getting(message(request, 5, want(at(103)), server(at(2))))},
	{"a REQUEST without an address", false, getting(message(request, 5))},
	{"a REQUEST of zeros", false, getting(client(message(request, 5, want(api.Addr{})), at(103)))},
	{"a RELEASE", false, getting(client(message(release, 5), at(103)))},
	{"a RELEASE of its own", false, getting(client(message(release, 2), at(101)))},
	{"an INFORM", false, getting(client(message(inform, 5), at(103)))},
	{"an INFORM without Client", false, getting(message(inform, 5))},
	{"an OFFER", false, getting(message(offer, 5))},
	{"an ACK", false, getting(message(ack, 5))},
	{"a NAK", false, getting(message(nak, 5))},
	{"a message without a type", false, getting(message(0, 5))},
	{"a message with another Op", false, getting(dhcp.Message{Op: 2, Mac: mac(5), Opts: []opt.Option{option(53, discover)}})},
}

// TestTimesCount has the times of calls, which later ones at 0 are at.
func TestTimesCount(t *testing.T) {
	for _, c := range calls {
		for _, now := range []int64{99, 100, 5000} {
			s := made(t, config())
			take(t, s, 1, 100, 0)
			take(t, s, 2, 101, 0)
			c.call(s, now)
			over := c.counts && now >= 100
			if l := s.All(0); slices.Contains(l, until(1, 100, 100)) == over {
				t.Errorf("P15.1, P15.2: All(0) after %s at %d: %v", c.name, now, l)
			}
			checkHolds(t, s, at(100), 0, !over)
		}
	}
}

// TestTimesDoNotDecrease has, after each call that counts at 109, times that are less
// or out of range: they count as 109.
func TestTimesDoNotDecrease(t *testing.T) {
	odd := []int64{108, 9, 0, -1, -109, math.MinInt64, api.MaxTime + 1, api.MaxTime + 110, math.MaxInt64}
	for _, c := range calls {
		if !c.counts {
			continue
		}
		for _, now := range odd {
			s := made(t, config())
			take(t, s, 1, 100, 10)
			take(t, s, 2, 101, 10)
			c.call(s, 109)
			checkHolds(t, s, at(100), now, true)
			refuse(t, s, 7, 100, now)
			take(t, s, 1, 100, now)
			if l := s.All(now); !slices.Contains(l, until(1, 100, 209)) {
				t.Errorf("P15.2: All(%d) after %s at 109: %v", now, c.name, l)
			}
			checkSilent(t, s, message(decline, 1, want(at(100))), now)
			if l := s.Tick(now); !slices.Contains(l, until(1, 100, 0)) {
				t.Errorf("P15.2: Tick(%d) after %s at 109: %v", now, c.name, l)
			}
			refuse(t, s, 7, 100, 708)
			take(t, s, 7, 100, 709)
		}
	}
}

// TestLastTimes has the greatest time that counts, at which leases go on.
func TestLastTimes(t *testing.T) {
	s := made(t, config())
	take(t, s, 1, 100, api.MaxTime-100)
	take(t, s, 2, 101, api.MaxTime-99)
	checkHolds(t, s, at(100), math.MaxInt64, true)
	checkTick(t, s, api.MaxTime, until(1, 100, api.MaxTime))
	checkHolds(t, s, at(100), math.MaxInt64, false)
	take(t, s, 2, 101, math.MaxInt64)
	checkAll(t, s, math.MaxInt64, until(2, 101, api.MaxTime+100))
}

// TestConfigurationIsCopied has lists with spare capacity that are looked at, and
// written over after they were handed in.
func TestConfigurationIsCopied(t *testing.T) {
	whole := config()
	whole.Fixed = append(whole.Fixed, conf.Fixed{Mac: mac(7), Addr: at(101)}, conf.Fixed{Mac: mac(6), Addr: at(6)})
	whole.Open = []conf.Open{{Proto: 6, Port: 1, Addr: at(5), To: 1}, {Proto: 17, Port: 2, Addr: at(6), To: 3}}
	fixed, open := slices.Clone(whole.Fixed), slices.Clone(whole.Open)
	c := whole
	c.Fixed, c.Open = c.Fixed[:2], c.Open[:1]
	s := made(t, c)
	if !slices.Equal(whole.Fixed, fixed) || !slices.Equal(whole.Open, open) {
		t.Errorf("R4: New changed its argument to %v, %v", whole.Fixed, whole.Open)
	}
	for i := range whole.Fixed {
		whole.Fixed[i] = conf.Fixed{Mac: mac(50), Addr: at(50)}
	}
	propose(t, s, 9, 9, 0)
	propose(t, s, 8, 102, 0)
	propose(t, s, 50, 100, 0)
	checkHolds(t, s, at(9), 0, true)
	checkHolds(t, s, at(102), 0, true)
	checkHolds(t, s, at(50), 0, false)
	take(t, s, 8, 102, 0)
	checkTick(t, s, 100, until(8, 102, 100))
	for i := range whole.Fixed {
		if whole.Fixed[i] != (conf.Fixed{Mac: mac(50), Addr: at(50)}) {
			t.Errorf("R4: the server shares memory with the argument: %v", whole.Fixed)
		}
	}
}

// TestNilIsEmpty has no fixed lines, no options and no bytes in both ways.
func TestNilIsEmpty(t *testing.T) {
	for _, none := range [][]conf.Fixed{nil, {}, make([]conf.Fixed, 0, 5)} {
		s := made(t, changed(func(c *conf.Conf) { c.Fixed = none }))
		propose(t, s, 9, 100, 0)
		checkHolds(t, s, at(9), 0, false)
	}
	s := made(t, config())
	for _, none := range [][]opt.Option{nil, {}, make([]opt.Option, 0, 5)} {
		m := message(discover, 1)
		m.Opts = none
		checkSilent(t, s, m, 0)
	}
	for _, none := range [][]byte{nil, {}, make([]byte, 0, 5)} {
		m := message(discover, 1, opt.Option{Code: 50, Body: none})
		checkGet(t, s, m, 0, offered(m, at(100)))
		m = client(message(request, 1, opt.Option{Code: 54, Body: none}, opt.Option{Code: 50, Body: none}), at(100))
		checkGet(t, s, m, 0, acked(m, at(100)))
		m = message(request, 1, opt.Option{Code: 53, Body: none})
		m.Opts = m.Opts[4:]
		checkSilent(t, s, m, 0)
	}
}

// spare returns b in memory that goes on behind its end.
func spare(b ...byte) []byte {
	return append(slices.Clone(b), 0xee, 0xee, 0xee, 0xee, 0xee, 0xee, 0xee, 0xee)[:len(b)]
}

// spoil writes over the bytes of b and all its spare capacity.
func spoil(b []byte) {
	b = b[:cap(b)]
	for i := range b {
		b[i] ^= 0xff
	}
}

// withSpare returns a message whose options, and their bytes, have spare capacity.
func withSpare(kind byte) dhcp.Message {
	m := client(message(0, 1), at(100))
	m.Opts = []opt.Option{
		{Code: 53, Body: spare(kind)}, {Code: 54, Body: spare(10, 7, 5, 1)}, {Code: 50, Body: spare(10, 7, 5, 100)},
		option(98, 1, 2), option(99), option(97), option(96), option(95),
	}[:3]
	return m
}

// TestMessagesAreLeft has all types of messages: none is changed, whatever the server
// does and whatever becomes of the answer.
func TestMessagesAreLeft(t *testing.T) {
	for kind := range byte(10) {
		s := made(t, config())
		take(t, s, 1, 100, 0)
		m, was := withSpare(kind), withSpare(kind)
		a, _ := s.Get(m, 0)
		for i := range a.Message.Opts {
			spoil(a.Message.Opts[i].Body)
		}
		clear(a.Message.Opts[:cap(a.Message.Opts)])
		for i, o := range was.Opts {
			whole, wholeWas := m.Opts[i].Body, o.Body
			if !reflect.DeepEqual(whole[:cap(whole)], wholeWas[:cap(wholeWas)]) {
				t.Errorf("R4: Get of type %d changes the option %d: %v", kind, o.Code, whole)
			}
		}
		if l := m.Opts[:cap(m.Opts)]; !reflect.DeepEqual(l, was.Opts[:cap(was.Opts)]) {
			t.Errorf("R4: Get of type %d changes its argument to %v", kind, l)
		}
	}
}

// TestMessagesAreNotKept writes over the options of messages that were answered.
func TestMessagesAreNotKept(t *testing.T) {
	for _, kind := range []byte{discover, request, inform} {
		s := made(t, config())
		m := withSpare(kind)
		a, ok := s.Get(m, 0)
		want, _ := newPlain(t, config()).get(withSpare(kind), 0)
		for _, o := range m.Opts {
			spoil(o.Body)
		}
		clear(m.Opts[:cap(m.Opts)])
		if !ok || !reflect.DeepEqual(a, want) {
			t.Errorf("R4: the answer to type %d shares its message's memory: %+v", kind, a)
		}
		propose(t, s, 1, 100, 0)
	}
}

// answered are messages of all kinds that have an answer.
func answered() []dhcp.Message {
	return []dhcp.Message{
		message(discover, 1), message(request, 1, want(at(100))), client(message(request, 1), at(100)),
		message(request, 1, want(at(99))), client(message(inform, 1), at(5)),
	}
}

// TestAnswersAreNewMemory writes over each body with its spare capacity, which changes
// no other one, no former answer and no later one.
func TestAnswersAreNewMemory(t *testing.T) {
	for _, m := range answered() {
		s := made(t, config())
		want, _ := newPlain(t, config()).get(m, 0)
		former, _ := s.Get(m, 0)
		for i := range want.Message.Opts {
			a, _ := s.Get(m, 0)
			spoil(a.Message.Opts[i].Body)
			a.Message.Opts[i] = want.Message.Opts[i]
			if !reflect.DeepEqual(a, want) {
				t.Errorf("R4: the body %d shares memory with others: %+v", i, a)
			}
		}
		a, _ := s.Get(m, 0)
		for _, o := range a.Message.Opts {
			spoil(o.Body)
		}
		clear(a.Message.Opts[:cap(a.Message.Opts)])
		if !reflect.DeepEqual(former, want) {
			t.Errorf("R4: two answers share memory: %+v", former)
		}
		checkGet(t, s, m, 0, want)
		take(t, s, 1, 103, 0)
	}
}

// TestListsAreNew has lists of leases that are written over with all of their spare
// capacity.
func TestListsAreNew(t *testing.T) {
	over := func(l []pool.Lease) {
		l = l[:cap(l)]
		for i := range l {
			l[i] = until(99, 98, 97)
		}
	}
	for count := 1; count < 20; count++ {
		s := made(t, changed(func(c *conf.Conf) { c.Last, c.Fixed = at(120), nil }))
		var live []pool.Lease
		for i := range count {
			take(t, s, i, 100+i, 0)
			live = append(live, until(i, 100+i, 100))
		}
		l := s.All(0)
		if !slices.Equal(l, live) {
			t.Errorf("P15.2, R4: All: %v instead of %v", l, live)
		}
		over(l)
		checkAll(t, s, 0, live...)
		l = s.Tick(100)
		if !slices.Equal(l, live) {
			t.Errorf("P15.2, R4: Tick: %v instead of %v", l, live)
		}
		over(l)
		checkTick(t, s, 100)
		for i := range count {
			propose(t, s, i, 100+i, 100)
		}
	}
}

// TestServersShareNothing has servers that are called by turns, and others at the same
// time: each of them does what it would do alone.
func TestServersShareNothing(t *testing.T) {
	for seed := range 8 {
		t.Run("servers", func(t *testing.T) {
			t.Parallel()
			d := dice(1000 + seed)
			servers := []*both{newBoth(t, someConf(&d, 5, 0)), newBoth(t, someConf(&d, 5, 2)), newBoth(t, someConf(&d, 12, 3))}
			var now int64
			for range 1500 {
				now += int64(d.roll(8))
				servers[d.roll(len(servers))].step(t, &d, 10, now)
			}
			for _, b := range servers {
				b.end(t, 10)
			}
		})
	}
}
