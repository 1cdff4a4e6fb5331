package dns_test

import (
	"bytes"
	"testing"

	"gatehouse/api"
	"gatehouse/dns"
)

// spare returns s in memory that goes on for 40 bytes behind its end.
func spare(s string) []byte {
	return append([]byte(s), bytes.Repeat([]byte{0xee}, 40)...)[:len(s)]
}

// checkWhole fails unless b, which spare has made, is as it was, as far as its
// memory goes.
func checkWhole(t *testing.T, what string, b []byte, was string) {
	t.Helper()
	if string(b) != was || !bytes.Equal(b[:len(b)+40][len(b):], bytes.Repeat([]byte{0xee}, 40)) {
		t.Errorf("R4: %s changes its argument: %q", what, b[:len(b)+40])
	}
}

// spoil writes over the bytes of b and all its spare capacity.
func spoil(b []byte) {
	b = b[:cap(b)]
	for i := range b {
		b[i] ^= 0xff
	}
}

// spoilName does so to a list of labels.
func spoilName(l []string) {
	l = l[:cap(l)]
	for i := range l {
		l[i] = "spoilt"
	}
}

// spoilAll does so to all lists of m.
func spoilAll(m dns.Message) {
	for _, l := range labels(&m) {
		spoilName(*l)
	}
	for _, b := range data(&m) {
		spoil(*b)
	}
	asked := m.Asked[:cap(m.Asked)]
	for i := range asked {
		asked[i] = question(99, "spoilt")
	}
	for _, l := range [][]dns.Record{m.Answers, m.Owners, m.More} {
		l = l[:cap(l)]
		for i := range l {
			l[i] = record(99, "spoilt", "spoilt")
		}
	}
}

func TestGetLeavesItsArgument(t *testing.T) {
	b := spare(linked)
	m, e := dns.Get(b)
	if e != api.OK || !same(m, unlinked()) {
		t.Fatalf("P21.1: Get: %s, %d", show(m), e)
	}
	checkWhole(t, "Get", b, linked)
	spoil(b)
	if !same(m, unlinked()) {
		t.Errorf("R4: the result of Get shares its argument's memory: %s", show(m))
	}
	b = spare(linked)
	m, _ = dns.Get(b)
	n, _ := dns.Get(b)
	spoilAll(m)
	checkWhole(t, "a change of the result of Get", b, linked)
	if !same(n, unlinked()) {
		t.Errorf("R4: two results of Get share memory: %s", show(n))
	}
	for i := range linked {
		b = spare(linked[:i])
		dns.Get(b)
		checkWhole(t, "a Get that fails", b, linked[:i])
		wrong := linked[:i] + string([]byte{linked[i] ^ 0xff}) + linked[i+1:]
		b = spare(wrong)
		dns.Get(b)
		checkWhole(t, "a Get of wrong bytes", b, wrong)
	}
}

// TestListsOfGetShareNoMemory writes over each list of a result with its spare
// capacity, while the others remain as they are.
func TestListsOfGetShareNoMemory(t *testing.T) {
	for _, b := range []string{linked, usualBytes} {
		want, _ := plainGet(b)
		for i := range labels(&want) {
			m, _ := dns.Get([]byte(b))
			spoilName(*labels(&m)[i])
			*labels(&m)[i] = *labels(&want)[i]
			if !same(m, want) {
				t.Errorf("R4: the name %d shares memory with others: %s", i, show(m))
			}
		}
		for i := range data(&want) {
			m, _ := dns.Get([]byte(b))
			spoil(*data(&m)[i])
			*data(&m)[i] = *data(&want)[i]
			if !same(m, want) {
				t.Errorf("R4: the Data %d shares memory with others: %s", i, show(m))
			}
		}
		for i := range 4 {
			m, _ := dns.Get([]byte(b))
			part := dns.Message{}
			switch i {
			case 0:
				part.Asked, m.Asked = m.Asked, want.Asked
			case 1:
				part.Answers, m.Answers = m.Answers, want.Answers
			case 2:
				part.Owners, m.Owners = m.Owners, want.Owners
			case 3:
				part.More, m.More = m.More, want.More
			}
			spoilAll(part)
			if !same(m, want) {
				t.Errorf("R4: the list %d shares memory with others: %s", i, show(m))
			}
		}
	}
}

// spacious is the usual message with spare capacity in all its lists, and a function
// that fails unless all of it is as it was.
func spacious() (dns.Message, func(t *testing.T, what string)) {
	m := usual()
	for _, l := range labels(&m) {
		*l = append(*l, "behind")[:len(*l)]
	}
	for _, b := range data(&m) {
		*b = spare(string(*b))
	}
	m.Asked = append(m.Asked, question(77, "behind"))[:len(m.Asked)]
	lists := []*[]dns.Record{&m.Answers, &m.Owners, &m.More}
	for _, l := range lists {
		*l = append(*l, record(77, "behind", "behind"))[:len(*l)]
	}
	return m, func(t *testing.T, what string) {
		t.Helper()
		was := usual()
		if !same(m, was) {
			t.Errorf("R4: %s changes its argument: %s", what, show(m))
		}
		for _, l := range labels(&m) {
			if (*l)[:len(*l)+1][len(*l)] != "behind" {
				t.Errorf("R4: %s changes what is behind a name: %q", what, (*l)[:len(*l)+1])
			}
		}
		for i, b := range data(&m) {
			checkWhole(t, what, *b, string(*data(&was)[i]))
		}
		if !sameQuestion(m.Asked[:len(m.Asked)+1][len(m.Asked)], question(77, "behind")) {
			t.Errorf("R4: %s changes what is behind the questions", what)
		}
		for _, l := range lists {
			if !sameRecord((*l)[:len(*l)+1][len(*l)], record(77, "behind", "behind")) {
				t.Errorf("R4: %s changes what is behind a list", what)
			}
		}
	}
}

func TestPutLeavesItsArgument(t *testing.T) {
	m, check := spacious()
	b, e := dns.Put(m)
	again, _ := dns.Put(m)
	if e != api.OK || string(b) != usualBytes {
		t.Fatalf("P21.1: Put: %q, %d", b, e)
	}
	check(t, "Put")
	spoil(b)
	check(t, "a change of the result of Put")
	if string(again) != usualBytes {
		t.Errorf("R4: two results of Put share memory: %q", again)
	}
	spoilAll(m)
	if string(again) != usualBytes {
		t.Errorf("R4: the result of Put shares its argument's memory: %q", again)
	}
	m, check = spacious()
	m.ID = -1
	checkNotPut(t, m, api.EARG)
	check(t, "a Put that fails")
}

func TestRefuseLeavesItsArgument(t *testing.T) {
	want := refused(usual(), 3)
	m, check := spacious()
	r := dns.Refuse(m, 3)
	again := dns.Refuse(m, 3)
	if !same(r, want) {
		t.Fatalf("P21.1: Refuse: %s", show(r))
	}
	check(t, "Refuse")
	spoilAll(r)
	check(t, "a change of the result of Refuse")
	if !same(again, want) {
		t.Errorf("R4: two results of Refuse share memory: %s", show(again))
	}
	spoilAll(m)
	if !same(again, want) {
		t.Errorf("R4: the result of Refuse shares its argument's memory: %s", show(again))
	}
	// the questions of one message that share their names
	l := append(names("a", "b"), "behind")[:2]
	m = dns.Message{Asked: questions(question(1, l...), question(2, l...), question(3, l[:1]...))}
	for i, name := range [][]string{{"a", "b"}, {"a", "b"}, {"a"}} {
		r = dns.Refuse(m, 3)
		spoilName(r.Asked[i].Name)
		r.Asked[i].Name = name
		if !same(r, refused(m, 3)) || l[:3][2] != "behind" {
			t.Errorf("R4: the name %d of the result of Refuse shares memory: %s", i, show(r))
		}
	}
}

// TestResultsDependOnArgumentsAlone has calls that succeed and fail by turns.
func TestResultsDependOnArgumentsAlone(t *testing.T) {
	wrong := usual()
	wrong.More[0].Class = -1
	long := usual()
	long.Answers[0].Data = make([]byte, 1473)
	for range 3 {
		checkGet(t, linked, unlinked())
		checkNotGet(t, linked[:len(linked)-1], api.ESHORT)
		checkGet(t, usualBytes, usual())
		checkNotGet(t, head(65, 0, 0, 0), api.ELIMIT)
		checkNotGet(t, linked+"\x00", api.EFORM)
		checkPut(t, usual(), usualBytes)
		checkNotPut(t, wrong, api.EARG)
		checkPut(t, dns.Message{ID: 0x1234, Flags: 0x8180}, head(0, 0, 0, 0))
		checkNotPut(t, long, api.ELIMIT)
		checkRefuse(t, usual(), 3)
		checkRefuse(t, dns.Message{}, 0)
		checkGet(t, head(0, 0, 0, 0), dns.Message{ID: 0x1234, Flags: 0x8180})
	}
}

// TestCallsAtTheSameTime has calls that share their arguments.
func TestCallsAtTheSameTime(t *testing.T) {
	b, m := []byte(linked), usual()
	for range 8 {
		t.Run("calls", func(t *testing.T) {
			t.Parallel()
			for range 200 {
				if got, e := dns.Get(b); e != api.OK || !same(got, unlinked()) {
					t.Errorf("P21.1: Get: %s, %d", show(got), e)
				}
				checkPut(t, m, usualBytes)
				checkRefuse(t, m, 2)
			}
		})
	}
}
