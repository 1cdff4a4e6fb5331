package track_test

import (
	"maps"
	"testing"

	"gatehouse/track"
)

// plain is the word of the chapter: each connection tells which one it was of all
// that came, and remembers both directions for good.
type plain struct {
	room int
	came int
	has  map[talk]one
}

// one is a connection that came as the number at.
type one struct {
	state, at         int
	begunIn, firstFin bool
}

func (p *plain) see(k talk, s step) int {
	c := p.has[k]
	before := c.state
	has := func(flag int) bool { return s.flags&flag == flag }
	switch before {
	case 0, 6:
		if has(syn) && !has(ack) && !has(rst) {
			c.state, c.begunIn = 1, s.inward
		}
	default:
		if has(rst) {
			c.state = 6
			break
		}
		if before == 1 && has(syn) && s.inward != c.begunIn {
			c.state = 2
		}
		if before == 2 && has(ack) && !has(syn) {
			c.state = 3
		}
		if before == 4 && has(fin) && s.inward != c.firstFin {
			c.state = 5
		}
	}
	if (before == 1 || before == 2 || before == 3) && has(fin) && !has(rst) {
		c.state, c.firstFin = 4, s.inward
	}
	if c.state == 0 {
		return 0
	}
	if before == 0 {
		p.makeRoom()
		p.came++
		c.at = p.came
	}
	p.has[k] = c
	return c.state
}

// makeRoom removes a connection, if the table is full: of those that are over, if
// there are any, or else of all, the one that came first.
func (p *plain) makeRoom() {
	if len(p.has) < p.room {
		return
	}
	isOver := func(c one) bool { return c.state == 5 || c.state == 6 }
	var leaves talk
	found := false
	for k, c := range p.has {
		best := p.has[leaves]
		if !found || isOver(c) && !isOver(best) || isOver(c) == isOver(best) && c.at < best.at {
			leaves, found = k, true
		}
	}
	delete(p.has, leaves)
}

func (p *plain) forget(out int) {
	maps.DeleteFunc(p.has, func(k talk, _ one) bool { return k.out == out })
}

// both is a table and its model, with what was called so far.
type both struct {
	table *track.Table
	plain *plain
	calls []any
}

func newBoth(t *testing.T, room int) *both {
	t.Helper()
	return &both{table: made(t, room), plain: &plain{room: room, has: map[talk]one{}}}
}

func (b *both) see(t *testing.T, k talk, s step) {
	t.Helper()
	b.calls = append(b.calls, k, s)
	n, is := see(b.table, k, s), b.plain.see(k, s)
	if n != is || b.table.Len() != len(b.plain.has) {
		t.Fatalf("P18.1: %d and %d in the table instead of %d and %d after %v", n, b.table.Len(), is, len(b.plain.has), b.calls)
	}
	b.check(t, k)
}

func (b *both) forget(t *testing.T, out int) {
	t.Helper()
	b.calls = append(b.calls, "Forget", out)
	b.table.Forget(out)
	b.plain.forget(out)
	if n := b.table.Len(); n != len(b.plain.has) {
		t.Fatalf("P18.1: %d in the table instead of %d after %v", n, len(b.plain.has), b.calls)
	}
}

// check compares the states of a connection.
func (b *both) check(t *testing.T, k talk) {
	t.Helper()
	if n, is := b.table.State(k.out, k.peer, k.port), b.plain.has[k].state; n != is {
		t.Fatalf("P18.1: State(%v): %d instead of %d after %v", k, n, is, b.calls)
	}
}

func (b *both) checkAll(t *testing.T, l []talk) {
	t.Helper()
	for _, k := range l {
		b.check(t, k)
	}
	if n := b.table.Len(); n > b.plain.room {
		t.Fatalf("T3: %d with room %d", n, b.plain.room)
	}
}

// dice is a row of numbers that is the same in each run.
type dice uint64

func (d *dice) roll(n int) int {
	*d = *d*6364136223846793005 + 1442695040888963407
	return int(uint64(*d)>>33) % n
}

func pick[T any](d *dice, l ...T) T { return l[d.roll(len(l))] }

// step returns a segment: mostly one that belongs to a talk.
func (d *dice) step() step {
	flags := pick(d, syn, syn, syn|ack, ack, ack, ack|psh, fin|ack, fin, rst, rst|ack)
	if d.roll(5) == 0 {
		flags = d.roll(64)
	}
	return step{flags, d.roll(2) == 0}
}

// talks returns the connections of so many ports of the gateway with few peers.
func talks(outs, peers, portsOfEach int) []talk {
	var l []talk
	for out := range outs {
		for n := range peers {
			for port := range portsOfEach {
				l = append(l, talk{out, peer(n), port})
			}
		}
	}
	return l
}

// TestAgainstTheWords has long rows of calls for tables of several rooms, with more
// connections than there is room for, and with fewer.
func TestAgainstTheWords(t *testing.T) {
	moves := map[[2]int]int{}
	rooms := []int{1, 2, 3, 5, 8, 20, 128, 256}
	for seed := range 400 {
		d := dice(seed)
		room := rooms[seed%len(rooms)]
		b := newBoth(t, room)
		l := talks(1+d.roll(room+2), 1+d.roll(3), 1+d.roll(2))
		for range 400 + 20*room {
			if d.roll(150) == 0 {
				b.forget(t, d.roll(room+3)-1)
				b.checkAll(t, l)
			}
			k := pick(&d, l...)
			before := b.plain.has[k].state
			b.see(t, k, d.step())
			moves[[2]int{before, b.plain.has[k].state}]++
			b.check(t, pick(&d, l...))
		}
		b.checkAll(t, l)
	}
	for _, m := range [][2]int{
		{0, 0}, {0, 1}, {1, 1}, {1, 2}, {1, 4}, {1, 6}, {2, 2}, {2, 3}, {2, 4}, {2, 6},
		{3, 3}, {3, 4}, {3, 6}, {4, 4}, {4, 5}, {4, 6}, {5, 5}, {5, 6}, {6, 6}, {6, 1},
	} {
		if moves[m] < 500 {
			t.Errorf("only %d times from state %d to %d", moves[m], m[0], m[1])
		}
	}
}

// rows returns how many rows of so many calls there are.
func rows(kinds, length int) int {
	n := 1
	for range length {
		n *= kinds
	}
	return n
}

// TestAllShortTalks has all rows of five segments with flags that count, of one
// connection.
func TestAllShortTalks(t *testing.T) {
	var kinds []step
	for _, flags := range []int{syn, syn | ack, ack, fin, fin | syn, rst} {
		kinds = append(kinds, step{flags, outward}, step{flags, inward})
	}
	const length = 5
	for row := range rows(len(kinds), length) {
		b := newBoth(t, 1)
		for rest, i := row, 0; i < length; rest, i = rest/len(kinds), i+1 {
			b.see(t, usual(), kinds[rest%len(kinds)])
		}
	}
}

// TestAllShortRows has all rows of five calls for three connections of two ports, in
// a table for two.
func TestAllShortRows(t *testing.T) {
	l := talks(2, 2, 1)[:3]
	var kinds []func(t *testing.T, b *both)
	for _, k := range l {
		for _, s := range []step{{syn, outward}, {fin, inward}, {rst, outward}} {
			kinds = append(kinds, func(t *testing.T, b *both) { b.see(t, k, s) })
		}
	}
	kinds = append(kinds, func(t *testing.T, b *both) { b.forget(t, 0) })
	const length = 5
	for row := range rows(len(kinds), length) {
		b := newBoth(t, 2)
		for rest, i := row, 0; i < length; rest, i = rest/len(kinds), i+1 {
			kinds[rest%len(kinds)](t, b)
		}
		b.checkAll(t, l)
		b.see(t, talk{7, peer(7), 7}, step{syn, inward})
		b.checkAll(t, l)
		b.see(t, talk{8, peer(8), 8}, step{syn, inward})
		b.checkAll(t, l)
	}
}
