package dhcp_test

import (
	"bytes"
	"encoding/binary"
	"math"
	"testing"

	"gatehouse/api"
	"gatehouse/dhcp"
	"gatehouse/opt"
)

// plainGet is the word of the chapter, with the places of the fields as it tells
// them.
func plainGet(b []byte) (dhcp.Message, api.Errno) {
	none := dhcp.Message{}
	if len(b) < 240 {
		return none, api.ESHORT
	}
	if b[0] != 1 && b[0] != 2 || b[1] != 1 || b[2] != 6 || string(b[236:240]) != "\x63\x82\x53\x63" {
		return none, api.EFORM
	}
	l, e := opt.Get(b[240:])
	if e != api.OK {
		return none, e
	}
	typed := false
	for _, o := range l {
		typed = typed || o.Code == 53 && len(o.Body) == 1 && o.Body[0] >= 1 && o.Body[0] <= 8
	}
	if !typed {
		return none, api.EFORM
	}
	return dhcp.Message{
		Op: int(b[0]), Hops: int(b[3]), Xid: binary.BigEndian.Uint32(b[4:8]),
		Secs: int(binary.BigEndian.Uint16(b[8:10])), Flags: int(binary.BigEndian.Uint16(b[10:12])),
		Client: api.Addr(b[12:16]), Your: api.Addr(b[16:20]), Server: api.Addr(b[20:24]), Relay: api.Addr(b[24:28]),
		Mac: api.Mac(b[28:34]), Opts: l,
	}, api.OK
}

// plainPut is the word of the chapter.
func plainPut(m dhcp.Message) ([]byte, api.Errno) {
	if m.Hops != int(uint8(m.Hops)) || m.Secs != int(uint16(m.Secs)) || m.Flags != int(uint16(m.Flags)) || m.Op*m.Op-3*m.Op+2 != 0 || plainType(m) == 0 {
		return nil, api.EARG
	}
	opts, e := opt.Put(m.Opts)
	if e != api.OK {
		return nil, e
	}
	b := make([]byte, max(300, 240+len(opts)))
	b[0], b[1], b[2], b[3] = byte(m.Op), 1, 6, byte(m.Hops)
	binary.BigEndian.PutUint32(b[4:], m.Xid)
	binary.BigEndian.PutUint16(b[8:], uint16(m.Secs))
	binary.BigEndian.PutUint16(b[10:], uint16(m.Flags))
	copy(b[12:], m.Client[:])
	copy(b[16:], m.Your[:])
	copy(b[20:], m.Server[:])
	copy(b[24:], m.Relay[:])
	copy(b[28:], m.Mac[:])
	copy(b[236:], "\x63\x82\x53\x63")
	copy(b[240:], opts)
	return b, api.OK
}

func plainType(m dhcp.Message) int {
	body, ok := opt.Find(m.Opts, 53)
	for n := 1; n <= 8; n++ {
		if ok && bytes.Equal(body, []byte{byte(n)}) {
			return n
		}
	}
	return 0
}

func checkGetAsPlain(t *testing.T, b []byte) api.Errno {
	t.Helper()
	m, e := dhcp.Get(b)
	want, wantE := plainGet(b)
	if e != wantE || !same(m, want) {
		t.Fatalf("P13.1: Get(%v): %+v, %d instead of %+v, %d", b, m, e, want, wantE)
	}
	if e == api.OK {
		checkType(t, m, plainType(want))
	}
	return e
}

func checkPutAsPlain(t *testing.T, m dhcp.Message) api.Errno {
	t.Helper()
	b, e := dhcp.Put(m)
	want, wantE := plainPut(m)
	if e != wantE || !bytes.Equal(b, want) {
		t.Fatalf("P13.1: Put(%+v): %v, %d instead of %v, %d", m, b, e, want, wantE)
	}
	checkType(t, m, plainType(m))
	if e == api.OK {
		if back, e := dhcp.Get(b); e != api.OK || !same(back, m) {
			t.Fatalf("P13.1: Get of Put(%+v): %+v, %d", m, back, e)
		}
	}
	return e
}

// dice rolls numbers that depend on where it starts alone.
type dice uint32

func (d *dice) roll(n int) int {
	*d = *d*1664525 + 1013904223
	return int(uint64(*d>>8) * uint64(n) >> 24)
}

// number rolls one from 0 to most, or, seldom, one beside them.
func (d *dice) number(most int) int {
	switch d.roll(100) {
	case 0:
		return most + 1 + d.roll(most)
	case 1:
		return -1 - d.roll(most)
	case 2:
		return d.roll(most) + 1<<32
	case 3:
		return math.MinInt
	}
	return d.roll(most + 1)
}

// TestGetOfEachByte has all values at each place.
func TestGetOfEachByte(t *testing.T) {
	for at := range 256 {
		for v := range 256 {
			checkGetAsPlain(t, changed(at, byte(v)))
		}
	}
}

// TestGetOfPairs has all values of the two bytes that say what Mac is.
func TestGetOfPairs(t *testing.T) {
	for pair := range 1 << 16 {
		b := plainBytes()
		b[1], b[2] = byte(pair>>8), byte(pair)
		checkGetAsPlain(t, b)
	}
}

// TestGetOfShortTails has all lists of up to 5 bytes of those that tell most.
func TestGetOfShortTails(t *testing.T) {
	bytesOf := []byte{0, 1, 2, 53, 8, 9, 255}
	var try func(tail []byte)
	try = func(tail []byte) {
		checkGetAsPlain(t, withTail(tail...))
		if len(tail) == 5 {
			return
		}
		for _, c := range bytesOf {
			try(append(tail, c))
		}
	}
	try(nil)
	try([]byte{53, 1})
}

// TestGetOfManyLists has messages with one or two changes, cut at some place.
func TestGetOfManyLists(t *testing.T) {
	d := dice(1)
	results := map[api.Errno]int{}
	for round := range 20000 {
		b := noise(260+d.roll(60), round)
		copy(b, []byte{byte(1 + d.roll(2)), 1, 6})
		copy(b[236:], []byte{99, 130, 83, 99, 53, 1, byte(d.roll(10)), 50, 2, 0, 255, []byte{255, 255, 255, 0, 7}[d.roll(5)], 9, 255})
		for range d.roll(3) {
			at := d.roll(len(b))
			if d.roll(2) == 0 {
				at = []int{0, 1, 2, 236, 237, 238, 239, 240, 241, 242, 244, 247}[d.roll(12)]
			}
			b[at] = byte(d.roll(256))
		}
		if d.roll(4) == 0 {
			b = b[:len(b)-d.roll(90)]
		}
		results[checkGetAsPlain(t, b)]++
	}
	for _, e := range []api.Errno{api.OK, api.ESHORT, api.EFORM} {
		if results[e] < 1000 {
			t.Errorf("only %d lists with the result %d", results[e], e)
		}
	}
}

// TestPutOfManyMessages has fields of all sizes and options, some of which are
// refused.
func TestPutOfManyMessages(t *testing.T) {
	d := dice(2)
	results := map[api.Errno]int{}
	for round := range 20000 {
		b := noise(26, round)
		m := dhcp.Message{
			Op: d.roll(40)/19 + 1, Hops: d.number(255), Xid: binary.BigEndian.Uint32(b), Secs: d.number(65535), Flags: d.number(65535),
			Client: api.Addr(b[4:8]), Your: api.Addr(b[8:12]), Server: api.Addr(b[12:16]), Relay: api.Addr(b[16:20]), Mac: api.Mac(b[20:26]),
		}
		for range d.roll(3) {
			m.Opts = append(m.Opts, sized(1+d.roll(256), d.roll(1000)))
		}
		if d.roll(20) > 0 {
			m.Opts = append(m.Opts, option(53, byte(d.roll(10))))
		}
		for range d.roll(2) {
			m.Opts = append(m.Opts, sized(1+d.roll(255), d.roll(70)))
		}
		results[checkPutAsPlain(t, m)]++
	}
	for _, e := range []api.Errno{api.OK, api.EARG, api.ELIMIT} {
		if results[e] < 500 {
			t.Errorf("only %d messages with the result %d", results[e], e)
		}
	}
}
