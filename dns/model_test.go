package dns_test

import (
	"slices"
	"testing"

	"gatehouse/api"
	"gatehouse/dns"
)

// plainName returns the encoding of the name at an offset of b, without pointers and
// without its end, and the offset behind it.
func plainName(b string, at int) (string, int, api.Errno) {
	encoding, after, pointers := "", -1, 0
	for {
		if at >= len(b) {
			return "", 0, api.ESHORT
		}
		first, rest := int(b[at]), b[at+1:]
		switch {
		case first == 0:
			if after < 0 {
				after = at + 1
			}
			return encoding, after, api.OK
		case first < 64:
			if len(rest) < first {
				return "", 0, api.ESHORT
			}
			encoding += b[at : at+1+first]
			if len(encoding) > 254 {
				return "", 0, api.EFORM
			}
			at += 1 + first
		case first < 192:
			return "", 0, api.EFORM
		case rest == "":
			return "", 0, api.ESHORT
		default:
			if after < 0 {
				after = at + 2
			}
			pointers++
			to := (256*first + int(rest[0])) % (1 << 14)
			if pointers > 64 || to >= at {
				return "", 0, api.EFORM
			}
			at = to
		}
	}
}

// split takes the encoding of a name apart, which has no end.
func split(encoding string) []string {
	if encoding == "" {
		return nil
	}
	n := 1 + int(encoding[0])
	return append([]string{encoding[1:n]}, split(encoding[n:])...)
}

// scan is the word of the chapter: it goes over b and gives up by a panic of an Errno.
type scan struct {
	b  string
	at int
}

func (s *scan) text(n int) string {
	if len(s.b) < s.at+n {
		panic(api.ESHORT)
	}
	s.at += n
	return s.b[s.at-n : s.at]
}

func (s *scan) number(n int) int {
	v := 0
	for _, c := range []byte(s.text(n)) {
		v = 256*v + int(c)
	}
	return v
}

func (s *scan) name() string {
	encoding, after, e := plainName(s.b, s.at)
	if e != api.OK {
		panic(e)
	}
	s.at = after
	return encoding
}

// plainData returns the Data of a type that lies between two offsets of b.
func plainData(b string, typ, from, to int) (data string, ok bool) {
	names, before, after := 0, 0, 0
	switch typ {
	case 2, 5, 12:
		names = 1
	case 15:
		names, before = 1, 2
	case 6:
		names, after = 2, 20
	default:
		return b[from:to], true
	}
	defer func() {
		if recover() != nil {
			data, ok = "", false
		}
	}()
	s := scan{b[:to], from}
	data = s.text(before)
	for range names {
		data += s.name() + "\x00"
	}
	data += s.text(after)
	return data, s.at == to
}

func (s *scan) record() dns.Record {
	x := dns.Record{Name: split(s.name()), Type: s.number(2), Class: s.number(2), Ttl: uint32(s.number(4))}
	n := s.number(2)
	s.text(n)
	data, ok := plainData(s.b, x.Type, s.at-n, s.at)
	if !ok {
		panic(api.EFORM)
	}
	x.Data = []byte(data)
	return x
}

func plainGet(b string) (m dns.Message, e api.Errno) {
	defer func() {
		if x := recover(); x != nil {
			m, e = dns.Message{}, x.(api.Errno)
		}
	}()
	if len(b) > 1472 {
		return m, api.ELIMIT
	}
	s := scan{b, 0}
	m.ID, m.Flags = s.number(2), s.number(2)
	counts := [4]int{s.number(2), s.number(2), s.number(2), s.number(2)}
	if counts[0]+counts[1]+counts[2]+counts[3] > 64 {
		panic(api.ELIMIT)
	}
	for range counts[0] {
		m.Asked = append(m.Asked, dns.Question{Name: split(s.name()), Type: s.number(2), Class: s.number(2)})
	}
	for i, l := range []*[]dns.Record{&m.Answers, &m.Owners, &m.More} {
		for range counts[i+1] {
			*l = append(*l, s.record())
		}
	}
	if s.at < len(b) {
		panic(api.EFORM)
	}
	return m, api.OK
}

// plainPut returns what Put is to return.
func plainPut(m dns.Message) (string, api.Errno) {
	if len(m.Asked)+len(m.Answers)+len(m.Owners)+len(m.More) > 64 {
		return "", api.EARG
	}
	for _, v := range numbers(&m) {
		if *v < 0 || *v > 65535 {
			return "", api.EARG
		}
	}
	for _, l := range labels(&m) {
		if len(whole(*l...)) > 255 || slices.ContainsFunc(*l, func(s string) bool { return s == "" || len(s) > 63 }) {
			return "", api.EARG
		}
	}
	for _, b := range data(&m) {
		if len(*b) > 65535 {
			return "", api.EARG
		}
	}
	b := pair(m.ID) + pair(m.Flags) + pair(len(m.Asked)) + pair(len(m.Answers)) + pair(len(m.Owners)) + pair(len(m.More))
	for _, q := range m.Asked {
		b += whole(q.Name...) + pair(q.Type) + pair(q.Class)
	}
	for _, l := range [][]dns.Record{m.Answers, m.Owners, m.More} {
		for _, x := range l {
			b += whole(x.Name...) + pair(x.Type) + pair(x.Class) + quad(x.Ttl) + pair(len(x.Data)) + string(x.Data)
		}
	}
	if len(b) > 1472 {
		return "", api.ELIMIT
	}
	return b, api.OK
}

func checkGetAsPlain(t *testing.T, b []byte) api.Errno {
	t.Helper()
	m, e := dns.Get(b)
	want, wantE := plainGet(string(b))
	if e != wantE || !same(m, want) {
		t.Fatalf("P21.1: Get(%q): %s, %d instead of %s, %d", b, show(m), e, show(want), wantE)
	}
	return e
}

func checkPutAsPlain(t *testing.T, m dns.Message) api.Errno {
	t.Helper()
	b, e := dns.Put(m)
	want, wantE := plainPut(m)
	if e != wantE || string(b) != want {
		t.Fatalf("P21.1: Put(%s): %.500q, %d instead of %.500q, %d", show(m), b, e, want, wantE)
	}
	if e == api.OK {
		checkGetAsPlain(t, b)
	}
	return e
}

// dice rolls numbers that depend on where it starts alone.
type dice uint32

func (d *dice) roll(n int) int {
	*d = *d*1664525 + 1013904223
	return int(uint64(*d>>8) * uint64(n) >> 24)
}

// label returns a label of up to most bytes.
func (d *dice) label(most int) string {
	b := make([]byte, 1+d.roll(most))
	for i := range b {
		b[i] = byte(d.roll(256))
	}
	return string(b)
}

// typ returns a type: most of them have names in their Data.
func (d *dice) typ() int {
	l := []int{2, 5, 6, 6, 12, 15, 15, 1, 16, d.roll(20), d.roll(1 << 16)}
	return l[d.roll(len(l))]
}

// writer writes messages whose names go on in former ones.
type writer struct {
	*dice
	b      []byte
	places []int
}

func (w *writer) text(s string) { w.b = append(w.b, s...) }

func (w *writer) any(n int) {
	for range n {
		w.b = append(w.b, byte(w.roll(256)))
	}
}

func (w *writer) name() {
	for range w.roll(3) {
		w.places = append(w.places, len(w.b))
		l := w.label(1 + w.roll(12))
		w.text(string([]byte{byte(len(l))}) + l)
	}
	w.places = append(w.places, len(w.b))
	if to := w.places[w.roll(len(w.places))]; to < len(w.b) && w.roll(4) > 0 {
		w.text(lead(to))
		return
	}
	w.text("\x00")
}

func (w *writer) record() {
	w.name()
	typ := w.typ()
	w.text(pair(typ))
	w.any(6)
	w.text("\x00\x00")
	from := len(w.b)
	switch typ {
	case 2, 5, 12:
		w.name()
	case 15:
		w.any(2)
		w.name()
	case 6:
		w.name()
		w.name()
		w.any(20)
	default:
		w.any(w.roll(20))
	}
	copy(w.b[from-2:], pair(len(w.b)-from))
}

func (w *writer) message() {
	w.b, w.places = nil, nil
	w.any(4)
	counts := [4]int{w.roll(3), w.roll(6), w.roll(6), w.roll(6)}
	if w.roll(20) == 0 {
		counts = [4]int{w.roll(10), w.roll(30), w.roll(10), w.roll(30)}
	}
	for _, n := range counts {
		w.text(pair(n))
	}
	for range counts[0] {
		w.name()
		w.any(4)
	}
	for range counts[1] + counts[2] + counts[3] {
		w.record()
	}
}

// TestGetOfManyMessages has messages with pointers, with some bytes changed, left out
// or added.
func TestGetOfManyMessages(t *testing.T) {
	d := dice(1)
	w := writer{dice: &d}
	results := map[api.Errno]int{}
	for range 4000 {
		w.message()
		results[checkGetAsPlain(t, w.b)]++
		for range 10 {
			b := slices.Clone(w.b)
			for range 1 + d.roll(3) {
				switch at := d.roll(len(b)); d.roll(6) {
				case 0:
					b = b[:at+1]
				case 1:
					b = slices.Insert(b, at, byte(d.roll(256)))
				case 2:
					b = append(b[:at:at], append([]byte(lead(d.roll(len(b)))), b[min(at+2, len(b)):]...)...)
				case 3:
					b[at]++
				default:
					b[at] = byte(d.roll(256))
				}
			}
			results[checkGetAsPlain(t, b)]++
		}
	}
	for _, e := range []api.Errno{api.OK, api.ELIMIT, api.ESHORT, api.EFORM} {
		if results[e] < 1000 {
			t.Errorf("only %d messages with the result %d", results[e], e)
		}
	}
}

// TestGetOfAllShortLists has a question and a record of types with names in their Data
// and without, and all lists of up to 5 of the bytes that tell most as its Data and as
// what follows.
func TestGetOfAllShortLists(t *testing.T) {
	bytesOf := []byte{0, 1, 2, 12, 24, 192}
	for _, typ := range []int{1, 2, 6, 15} {
		begin := []byte(head(1, 1, 0, 1) + asks("\x01a\x00", 1) + tells(lead(12), typ, ""))
		var try func(b []byte, left int)
		try = func(b []byte, left int) {
			for n := range len(b) - len(begin) + 2 {
				copy(b[len(begin)-2:], pair(n))
				checkGetAsPlain(t, b)
			}
			if left == 0 {
				return
			}
			for _, c := range bytesOf {
				try(append(b, c), left-1)
			}
		}
		try(begin, 5)
		try(append(slices.Clone(begin), soa...), 3)
	}
}

// message returns one whose parts are seldom wrong.
func (d *dice) message(wrong, long [][]string) dns.Message {
	number := func() int {
		if d.roll(150) == 0 {
			return wrongNumbers()[d.roll(len(wrongNumbers()))]
		}
		return d.roll(1 << 16)
	}
	name := func() []string {
		if d.roll(80) == 0 {
			return wrong[d.roll(len(wrong))]
		}
		if d.roll(30) == 0 {
			return long[d.roll(len(long))]
		}
		var l []string
		for range d.roll(4) {
			l = append(l, d.label(1+d.roll(20)))
		}
		return l
	}
	list := func() []dns.Record {
		var l []dns.Record
		for range d.roll(1 + d.roll(14)) {
			x := dns.Record{Name: name(), Type: d.typ(), Class: number(), Ttl: uint32(d.roll(1<<16))<<16 | uint32(d.roll(1<<16)), Data: []byte(d.label(30))}
			switch d.roll(100) {
			case 0:
				x.Data = make([]byte, 65530+d.roll(12))
			case 1:
				x.Data = make([]byte, 1200+d.roll(250))
			case 2:
				x.Data = nil
			case 3, 4, 5, 6, 7, 8:
				x.Data = []byte(whole(name()...))
			}
			l = append(l, x)
		}
		return l
	}
	m := dns.Message{ID: number(), Flags: number(), Answers: list(), Owners: list(), More: list()}
	for range d.roll(8) {
		m.Asked = append(m.Asked, dns.Question{Name: name(), Type: number(), Class: number()})
	}
	return m
}

// TestPutOfManyMessages has messages of which some are wrong or too long.
func TestPutOfManyMessages(t *testing.T) {
	d := dice(2)
	wrong, long := wrongNames(), longNames()
	results := map[api.Errno]int{}
	for range 8000 {
		m := d.message(wrong, long)
		results[checkPutAsPlain(t, m)]++
		checkRefuse(t, m, d.roll(100)-50)
	}
	for _, e := range []api.Errno{api.OK, api.EARG, api.ELIMIT} {
		if results[e] < 500 {
			t.Errorf("only %d messages with the result %d", results[e], e)
		}
	}
}

// TestGetOfPut has messages whose Data has no pointers: they come back as they are.
func TestGetOfPut(t *testing.T) {
	d := dice(3)
	w := writer{dice: &d}
	goods := 0
	for range 3000 {
		w.message()
		m, e := dns.Get(w.b)
		if e != api.OK {
			continue
		}
		b, e := dns.Put(m)
		if e == api.ELIMIT {
			continue
		}
		goods++
		if n, f := dns.Get(b); e != api.OK || f != api.OK || !same(n, m) {
			t.Fatalf("P21.1: Get of Put(%s): %s, %d, %d", show(m), show(n), e, f)
		}
	}
	if goods < 500 {
		t.Errorf("only %d messages", goods)
	}
}
