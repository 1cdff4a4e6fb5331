package octet_test

import (
	"bytes"
	"math"
	"testing"

	"gatehouse/octet"
)

// count returns the bytes 1, 2, 3, .., n.
func count(n int) []byte {
	b := make([]byte, n)
	for i := range b {
		b[i] = byte(i + 1)
	}
	return b
}

// checkEnded fails unless nothing is left and no call returns anything.
func checkEnded(t *testing.T, r *octet.Reader) {
	t.Helper()
	for range 2 {
		if n := r.Left(); n != 0 {
			t.Errorf("P1.1: Left of a short Reader: %d", n)
		}
		if v := r.U8(); v != 0 {
			t.Errorf("P1.1: U8 of a short Reader: %d", v)
		}
		if v := r.U16(); v != 0 {
			t.Errorf("P1.1: U16 of a short Reader: %d", v)
		}
		if v := r.U32(); v != 0 {
			t.Errorf("P1.1: U32 of a short Reader: %d", v)
		}
		for _, n := range []int{0, 1, -1, math.MinInt, math.MaxInt} {
			if b := r.Bytes(n); len(b) != 0 {
				t.Errorf("P1.1: Bytes(%d) of a short Reader: %v", n, b)
			}
		}
		if !r.Short() {
			t.Errorf("P1.1: a Reader does not remain short")
		}
	}
}

func TestReadExampleOfTheChapter(t *testing.T) {
	r := octet.Read([]byte{1, 2, 3})
	if v := r.U16(); v != 258 {
		t.Errorf("P1.1: U16: %d", v)
	}
	if v := r.U8(); v != 3 {
		t.Errorf("P1.1: U8: %d", v)
	}
	if r.Short() {
		t.Errorf("P1.1: short before anything was missing")
	}
	if v := r.U8(); v != 0 || !r.Short() {
		t.Errorf("P1.1: a further U8: %d, short: %v", v, r.Short())
	}
	checkEnded(t, r)
}

func TestReadOfNothing(t *testing.T) {
	for _, b := range [][]byte{nil, {}, make([]byte, 0, 8)} {
		r := octet.Read(b)
		if r.Left() != 0 || r.Short() {
			t.Errorf("P1.1: Read(%#v): Left %d, short: %v", b, r.Left(), r.Short())
		}
		if x := r.Bytes(0); len(x) != 0 || r.Short() {
			t.Errorf("P1.1: Bytes(0) of %#v: %v, short: %v", b, x, r.Short())
		}
		if r.U8() != 0 || !r.Short() {
			t.Errorf("P1.1: U8 of %#v is not short", b)
		}
		checkEnded(t, r)
	}
}

func TestU8(t *testing.T) {
	r := octet.Read([]byte{0, 1, 127, 128, 255})
	for i, want := range []int{0, 1, 127, 128, 255} {
		if v := r.U8(); v != want || r.Short() || r.Left() != 4-i {
			t.Errorf("P1.1: U8: %d instead of %d, Left %d, short: %v", v, want, r.Left(), r.Short())
		}
	}
}

func TestU16Reads(t *testing.T) {
	for _, c := range []struct {
		b    []byte
		want int
	}{
		{[]byte{0, 0}, 0},
		{[]byte{0, 1}, 1},
		{[]byte{1, 0}, 256},
		{[]byte{1, 2}, 258},
		{[]byte{127, 255}, 32767},
		{[]byte{128, 0}, 32768},
		{[]byte{255, 255}, 65535},
	} {
		r := octet.Read(c.b)
		if v := r.U16(); v != c.want || r.Short() || r.Left() != 0 {
			t.Errorf("P1.1: U16 of %v: %d instead of %d, Left %d, short: %v", c.b, v, c.want, r.Left(), r.Short())
		}
	}
}

func TestU32Reads(t *testing.T) {
	for _, c := range []struct {
		b    []byte
		want uint32
	}{
		{[]byte{0, 0, 0, 0}, 0},
		{[]byte{0, 0, 0, 1}, 1},
		{[]byte{1, 2, 3, 4}, 0x01020304},
		{[]byte{127, 255, 255, 255}, math.MaxInt32},
		{[]byte{128, 0, 0, 0}, 1 << 31},
		{[]byte{255, 255, 255, 255}, math.MaxUint32},
	} {
		r := octet.Read(c.b)
		if v := r.U32(); v != c.want || r.Short() || r.Left() != 0 {
			t.Errorf("P1.1: U32 of %v: %d instead of %d, Left %d, short: %v", c.b, v, c.want, r.Left(), r.Short())
		}
	}
}

func TestBytes(t *testing.T) {
	r := octet.Read(count(6))
	for _, c := range []struct {
		n, left int
		want    []byte
	}{
		{0, 6, nil},
		{1, 5, []byte{1}},
		{3, 2, []byte{2, 3, 4}},
		{2, 0, []byte{5, 6}},
		{0, 0, nil},
	} {
		x := r.Bytes(c.n)
		if !bytes.Equal(x, c.want) || r.Left() != c.left || r.Short() {
			t.Errorf("P1.1: Bytes(%d): %v instead of %v, Left %d instead of %d, short: %v", c.n, x, c.want, r.Left(), c.left, r.Short())
		}
	}
}

func TestCallsInTurn(t *testing.T) {
	r := octet.Read(count(12))
	if v := r.U8(); v != 1 || r.Left() != 11 {
		t.Errorf("P1.1: U8: %d, Left %d", v, r.Left())
	}
	if v := r.U32(); v != 0x02030405 || r.Left() != 7 {
		t.Errorf("P1.1: U32: %x, Left %d", v, r.Left())
	}
	if x := r.Bytes(2); !bytes.Equal(x, []byte{6, 7}) || r.Left() != 5 {
		t.Errorf("P1.1: Bytes: %v, Left %d", x, r.Left())
	}
	if v := r.U16(); v != 0x0809 || r.Left() != 3 {
		t.Errorf("P1.1: U16: %x, Left %d", v, r.Left())
	}
	if r.Short() {
		t.Errorf("P1.1: short with 3 bytes left")
	}
	if v := r.U32(); v != 0 {
		t.Errorf("P1.1: U32 of 3 bytes: %x", v)
	}
	checkEnded(t, r)
}

// TestPastTheEnd tries each call with every number of bytes that does not
// suffice, where a part of the number must not come out.
func TestPastTheEnd(t *testing.T) {
	for _, c := range []struct {
		name  string
		needs int
		call  func(r *octet.Reader) int
	}{
		{"U8", 1, func(r *octet.Reader) int { return r.U8() }},
		{"U16", 2, func(r *octet.Reader) int { return r.U16() }},
		{"U32", 4, func(r *octet.Reader) int { return int(r.U32()) }},
		{"Bytes(1)", 1, func(r *octet.Reader) int { return len(r.Bytes(1)) }},
		{"Bytes(5)", 5, func(r *octet.Reader) int { return len(r.Bytes(5)) }},
	} {
		for n := range c.needs {
			r := octet.Read(count(n))
			if v := c.call(r); v != 0 || !r.Short() {
				t.Errorf("P1.1: %s of %d bytes: %d, short: %v", c.name, n, v, r.Short())
			}
			checkEnded(t, r)
		}
	}
}

func TestBytesOfAWrongNumber(t *testing.T) {
	for _, n := range []int{-1, -3, math.MinInt32, math.MinInt, 4, math.MaxInt32, math.MaxInt} {
		r := octet.Read(count(3))
		if x := r.Bytes(n); len(x) != 0 || !r.Short() {
			t.Errorf("P1.1: Bytes(%d) of 3 bytes: %v, short: %v", n, x, r.Short())
		}
		checkEnded(t, r)
	}
}

func TestBytesAfterOthersCountsWhatIsLeft(t *testing.T) {
	r := octet.Read(count(3))
	r.U16()
	if x := r.Bytes(2); len(x) != 0 || !r.Short() {
		t.Errorf("P1.1: Bytes(2) of 1 byte that is left: %v, short: %v", x, r.Short())
	}
	checkEnded(t, r)
}

func TestLeftAndShortHaveNoEffect(t *testing.T) {
	r := octet.Read(count(2))
	for range 3 {
		if r.Left() != 2 || r.Short() {
			t.Errorf("P1.1: Left %d, short: %v", r.Left(), r.Short())
		}
	}
	if v := r.U16(); v != 258 {
		t.Errorf("P1.1: U16 after Left and Short: %d", v)
	}
}

func TestU16Writes(t *testing.T) {
	for _, c := range []struct {
		b    []byte
		v    int
		want []byte
	}{
		{nil, 0, []byte{0, 0}},
		{[]byte{}, 258, []byte{1, 2}},
		{[]byte{7, 8}, 258, []byte{7, 8, 1, 2}},
		{nil, 255, []byte{0, 255}},
		{nil, 256, []byte{1, 0}},
		{nil, 65535, []byte{255, 255}},
		{nil, 65536, []byte{0, 0}},
		{nil, 0x7abc0102, []byte{1, 2}},
		{nil, -1, []byte{255, 255}},
		{nil, -65535, []byte{0, 1}},
		{nil, math.MinInt, []byte{0, 0}},
		{nil, math.MaxInt, []byte{255, 255}},
	} {
		if x := octet.U16(c.b, c.v); !bytes.Equal(x, c.want) {
			t.Errorf("P1.1: U16(%v, %d): %v instead of %v", c.b, c.v, x, c.want)
		}
	}
}

func TestU32Writes(t *testing.T) {
	for _, c := range []struct {
		b    []byte
		v    uint32
		want []byte
	}{
		{nil, 0, []byte{0, 0, 0, 0}},
		{[]byte{}, 0x01020304, []byte{1, 2, 3, 4}},
		{[]byte{7, 8}, 0x01020304, []byte{7, 8, 1, 2, 3, 4}},
		{nil, 1 << 31, []byte{128, 0, 0, 0}},
		{nil, math.MaxUint32, []byte{255, 255, 255, 255}},
	} {
		if x := octet.U32(c.b, c.v); !bytes.Equal(x, c.want) {
			t.Errorf("P1.1: U32(%v, %d): %v instead of %v", c.b, c.v, x, c.want)
		}
	}
}

func TestWrittenNumbersAreReadBack(t *testing.T) {
	for v := range 1 << 16 {
		if got := octet.Read(octet.U16(nil, v)).U16(); got != v {
			t.Fatalf("P1.1: U16 of %d is read as %d", v, got)
		}
	}
	for i := range 32 {
		v := uint32(1)<<i | uint32(i)
		if got := octet.Read(octet.U32(nil, v)).U32(); got != v {
			t.Errorf("P1.1: U32 of %d is read as %d", v, got)
		}
	}
}

// TestReaderAgainstAModel compares all turns of four calls, on lists of up to
// eleven bytes, with a plain account of what each call must return.
func TestReaderAgainstAModel(t *testing.T) {
	const turns = 4
	sizes := []int{1, 2, 4, 0, 1, 3, -1}
	all := 1
	for range turns {
		all *= len(sizes)
	}
	for length := range 12 {
		for turn := range all {
			b, short := count(length), false
			r := octet.Read(b)
			for rest, i := turn, 0; i < turns; rest, i = rest/len(sizes), i+1 {
				which := rest % len(sizes)
				n := sizes[which]
				var want []byte
				if n < 0 || n > len(b) {
					b, short = nil, true
				} else {
					want, b = b[:n], b[n:]
				}
				if !callFits(r, which, n, want) {
					t.Fatalf("P1.1: turn %d of %d bytes: call %d returns something else than %v", turn, length, i, want)
				}
				if r.Left() != len(b) || r.Short() != short {
					t.Fatalf("P1.1: turn %d of %d bytes: after call %d, Left is %d instead of %d, Short is %v instead of %v", turn, length, i, r.Left(), len(b), r.Short(), short)
				}
			}
		}
	}
}

// callFits makes the call with this index in sizes and reports whether it
// returns just the bytes want, or their number.
func callFits(r *octet.Reader, which, n int, want []byte) bool {
	number := uint32(0)
	for _, c := range want {
		number = number<<8 | uint32(c)
	}
	switch which {
	case 0:
		return uint32(r.U8()) == number
	case 1:
		return uint32(r.U16()) == number
	case 2:
		return r.U32() == number
	}
	return bytes.Equal(r.Bytes(n), want)
}

func TestReadDoesNotKeepItsArgument(t *testing.T) {
	b := count(9)
	r := octet.Read(b)
	clear(b)
	if r.U8() != 1 || r.U16() != 0x0203 || r.U32() != 0x04050607 || !bytes.Equal(r.Bytes(2), []byte{8, 9}) {
		t.Errorf("R4: a change of the list is seen by its Reader")
	}
}

func TestReadDoesNotChangeItsArgument(t *testing.T) {
	b := append(make([]byte, 0, 16), count(9)...)
	r := octet.Read(b)
	r.U8()
	r.U16()
	r.U32()
	x := r.Bytes(1)
	x[0] = 99
	_ = append(x, 98, 97)
	r.Bytes(5)
	if !bytes.Equal(b, count(9)) || !bytes.Equal(b[:16][9:], make([]byte, 7)) {
		t.Errorf("R4: the list is changed: %v", b[:16])
	}
}

func TestBytesReturnsNewMemory(t *testing.T) {
	r := octet.Read(count(6))
	first := r.Bytes(2)
	second := r.Bytes(2)
	clear(first)
	_ = append(first, 99, 98, 97, 96)
	if !bytes.Equal(second, []byte{3, 4}) {
		t.Errorf("R4: two results share memory: %v", second)
	}
	clear(second)
	_ = append(second, 95, 94)
	if v := r.U16(); v != 0x0506 {
		t.Errorf("R4: a result shares memory with what is left: %x", v)
	}
}

func TestWritingReturnsNewMemory(t *testing.T) {
	for _, c := range []struct {
		name  string
		write func(b []byte) []byte
	}{
		{"U16", func(b []byte) []byte { return octet.U16(b, 0x6162) }},
		{"U32", func(b []byte) []byte { return octet.U32(b, 0x61626364) }},
	} {
		b := append(make([]byte, 0, 32), 1, 2, 3)
		first := c.write(b)
		if !bytes.Equal(b[:32], append([]byte{1, 2, 3}, make([]byte, 29)...)) {
			t.Errorf("R4: %s writes into its argument or behind it: %v", c.name, b[:32])
		}
		second := c.write(b)
		want := bytes.Clone(second)
		clear(first[:cap(first)])
		if !bytes.Equal(b, []byte{1, 2, 3}) || !bytes.Equal(second, want) {
			t.Errorf("R4: the result of %s shares memory: %v, %v", c.name, b, second)
		}
		clear(b[:32])
		if !bytes.Equal(second, want) {
			t.Errorf("R4: the result of %s shares its argument's memory: %v", c.name, second)
		}
	}
}

func TestReadersDoNotTouchEachOther(t *testing.T) {
	b := count(4)
	one, two := octet.Read(b), octet.Read(b)
	one.Bytes(9)
	if two.Short() || two.Left() != 4 || two.U32() != 0x01020304 {
		t.Errorf("R5: a Reader depends on another one")
	}
	if one.Left() != 0 || !one.Short() {
		t.Errorf("R5: a short Reader depends on another one")
	}
}
