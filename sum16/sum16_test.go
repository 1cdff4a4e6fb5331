package sum16_test

import (
	"bytes"
	"math"
	"testing"

	"gatehouse/sum16"
)

// header is the header of an IPv4 packet with its checksum, 0xB861, in bytes
// 10 and 11.
var header = []byte{
	0x45, 0x00, 0x00, 0x73, 0x00, 0x00, 0x40, 0x00, 0x40, 0x11,
	0xb8, 0x61, 0xc0, 0xa8, 0x00, 0x01, 0xc0, 0xa8, 0x00, 0xc7,
}

// extremes are numbers beyond 16 bits, and below 0, with those at the edges.
var extremes = []int{
	0, 1, 2, 255, 256, 32767, 32768, 40000, 65533, 65534, 65535,
	65536, 65537, 131070, 131071, 131072, math.MaxInt32, math.MaxInt - 1, math.MaxInt,
	-1, -2, -65534, -65535, -65536, -65537, math.MinInt32, math.MinInt + 1, math.MinInt,
}

// plainAdd is the word of the chapter in plain numbers: what two's complement
// leaves of v in 16 bits is the remainder by 65536 that is not negative.
func plainAdd(a, b int) int {
	sum := (a%65536+65536)%65536 + (b%65536+65536)%65536
	if sum > 65535 {
		return sum - 65536 + 1
	}
	return sum
}

// plainOf is the checksum of b with the sum in one big number, of which the
// remainder by 65535 is taken at the end: it is 65535 instead of 0 unless all
// bytes are 0.
func plainOf(b []byte) int {
	sum := uint64(0)
	for i, c := range b {
		if i%2 == 0 {
			sum += 256 * uint64(c)
		} else {
			sum += uint64(c)
		}
	}
	if sum > 0 && sum%65535 == 0 {
		return 0
	}
	return 65535 - int(sum%65535)
}

// noise returns n bytes that look irregular and depend on seed alone.
func noise(n int, seed uint32) []byte {
	b := make([]byte, n)
	for i := range b {
		seed = seed*1664525 + 1013904223
		b[i] = byte(seed >> 24)
	}
	return b
}

func repeat(c byte, n int) []byte { return bytes.Repeat([]byte{c}, n) }

// replaced returns b with the bytes now at the place at.
func replaced(b []byte, at int, now []byte) []byte {
	c := bytes.Clone(b)
	copy(c[at:], now)
	return c
}

// spare returns b in memory that goes on behind its end.
func spare(b []byte) []byte {
	return append(append(make([]byte, 0, len(b)+8), b...), repeat(0xee, 8)...)[:len(b)]
}

func TestAdd(t *testing.T) {
	for _, c := range []struct{ a, b, want int }{
		{65535, 1, 1},
		{40000, 40000, 14465},
		{0, 0, 0},
		{0, 1, 1},
		{1, 2, 3},
		{0, 65535, 65535},
		{65534, 1, 65535},
		{65534, 2, 1},
		{65535, 65535, 65535},
		{65535, 65534, 65534},
		{32768, 32767, 65535},
		{32768, 32768, 1},
		{255, 1, 256},
	} {
		if got := sum16.Add(c.a, c.b); got != c.want {
			t.Errorf("P2.1: Add(%d, %d): %d instead of %d", c.a, c.b, got, c.want)
		}
		if got := sum16.Add(c.b, c.a); got != c.want {
			t.Errorf("P2.1: Add(%d, %d): %d instead of %d", c.b, c.a, got, c.want)
		}
	}
}

func TestAddTakesTheLowest16Bits(t *testing.T) {
	for _, c := range []struct{ a, b, want int }{
		{65536, 0, 0},
		{65536, 65536, 0},
		{65536 + 5, 2, 7},
		{65537, 65535, 1},
		{131071, 0, 65535},
		{1 << 30, 3, 3},
		{math.MaxInt, 0, 65535},
		{math.MaxInt, math.MaxInt, 65535},
		{math.MinInt, 0, 0},
		{math.MinInt, math.MinInt, 0},
		{math.MinInt + 9, 1, 10},
		{math.MinInt, math.MaxInt, 65535},
		{-1, 0, 65535},
		{-1, 1, 1},
		{-1, -1, 65535},
		{-2, 1, 65535},
		{-65535, 0, 1},
		{-65536, 0, 0},
		{-65537, 0, 65535},
	} {
		if got := sum16.Add(c.a, c.b); got != c.want {
			t.Errorf("P2.1: Add(%d, %d): %d instead of %d", c.a, c.b, got, c.want)
		}
		if got := sum16.Add(c.b, c.a); got != c.want {
			t.Errorf("P2.1: Add(%d, %d): %d instead of %d", c.b, c.a, got, c.want)
		}
	}
}

func TestAddAgainstAModel(t *testing.T) {
	for _, a := range extremes {
		for b := -70000; b <= 140000; b += 7 {
			if got, want := sum16.Add(a, b), plainAdd(a, b); got != want {
				t.Fatalf("P2.1: Add(%d, %d): %d instead of %d", a, b, got, want)
			}
		}
		for _, b := range extremes {
			if got, want := sum16.Add(a, b), plainAdd(a, b); got != want {
				t.Errorf("P2.1: Add(%d, %d): %d instead of %d", a, b, got, want)
			}
		}
	}
}

// ofCases are bytes and their checksums.
var ofCases = []struct {
	b    []byte
	want int
}{
	{nil, 65535},
	{[]byte{}, 65535},
	{spare(nil), 65535},
	{[]byte{0, 1}, 65534},
	{[]byte{1, 0}, 65535 - 256},
	{[]byte{1, 2}, 65535 - 258},
	{[]byte{0, 0}, 65535},
	{[]byte{255, 255}, 0},
	{[]byte{255, 254}, 1},
	{[]byte{128, 0}, 32767},
	// Last bytes without a partner.
	{[]byte{0}, 65535},
	{[]byte{1}, 65535 - 256},
	{[]byte{255}, 255},
	{[]byte{0, 1, 1}, 65535 - 257},
	{[]byte{0, 255, 255}, 0},
	{[]byte{255, 255, 1}, 65535 - 256},
	{spare([]byte{1}), 65535 - 256},
	// Sums that exceed 16 bits.
	{[]byte{255, 255, 0, 1}, 65534},
	{[]byte{255, 255, 255, 255}, 0},
	{[]byte{255, 255, 0, 0}, 0},
	{[]byte{128, 0, 128, 0}, 65534},
	{[]byte{128, 0, 128}, 65534},
	{[]byte{128, 0, 127, 255}, 0},
	// The example of RFC 1071, whose sum is 0xDDF2.
	{[]byte{0x00, 0x01, 0xf2, 0x03, 0xf4, 0xf5, 0xf6, 0xf7}, 0x220d},
	{header, 0},
	{replaced(header, 10, []byte{0, 0}), 0xb861},
	// Many bytes, whose sum exceeds 32 bits.
	{repeat(255, 1<<18), 0},
	{repeat(255, 1<<18+1), 255},
	{repeat(0, 1<<18+1), 65535},
	{repeat(1, 2*65535), 0},
	{repeat(1, 2*65536), 65535 - 257},
}

func TestOf(t *testing.T) {
	for i, c := range ofCases {
		if got := sum16.Of(c.b); got != c.want {
			t.Errorf("P2.1: Of of number %d, %d bytes: %d instead of %d", i, len(c.b), got, c.want)
		}
	}
}

func TestOfAgainstAModel(t *testing.T) {
	for n := range 300 {
		for seed := range uint32(8) {
			b := noise(n, seed)
			if got, want := sum16.Of(b), plainOf(b); got != want {
				t.Fatalf("P2.1: Of of %v: %d instead of %d", b, got, want)
			}
		}
	}
	for v := range 1 << 16 {
		if got := sum16.Of([]byte{byte(v >> 8), byte(v)}); got != 65535-v {
			t.Fatalf("P2.1: Of of the pair %d: %d", v, got)
		}
	}
}

func TestManyOfFewLists(t *testing.T) {
	for i, c := range []struct {
		l    [][]byte
		want int
	}{
		{nil, 65535},
		{[][]byte{}, 65535},
		{[][]byte{nil}, 65535},
		{[][]byte{{}, nil, {}}, 65535},
		{[][]byte{{1}}, 65535 - 256},
		{[][]byte{{1}, {2}}, 65535 - 258},
		{[][]byte{{1}, nil, {}, {2}}, 65535 - 258},
		{[][]byte{{1}, {2}, {3}}, 65535 - 258 - 3*256},
		{[][]byte{{1}, {2, 3}, {4}}, 65535 - 258 - 3*256 - 4},
		{[][]byte{{1, 2}, {3, 4}}, 65535 - 258 - 3*256 - 4},
		{[][]byte{{255}, {255}}, 0},
		{[][]byte{{255, 255}, {0, 1}}, 65534},
		{[][]byte{{0}, {255, 255}}, 0},
		{[][]byte{spare([]byte{1}), spare([]byte{2})}, 65535 - 258},
	} {
		if got := sum16.Many(c.l...); got != c.want {
			t.Errorf("P2.1: Many of number %d: %d instead of %d", i, got, c.want)
		}
	}
	if got := sum16.Many(); got != 65535 {
		t.Errorf("P2.1: Many(): %d", got)
	}
}

// TestManyAtAllCuts cuts bytes in three, so that lists of odd lengths stand at
// every place.
func TestManyAtAllCuts(t *testing.T) {
	for n := range 24 {
		b := noise(n, 77)
		want := plainOf(b)
		for i := 0; i <= n; i++ {
			for j := i; j <= n; j++ {
				if got := sum16.Many(b[:i], b[i:j], b[j:]); got != want {
					t.Fatalf("P2.1: Many of %v, %v, %v: %d instead of %d", b[:i], b[i:j], b[j:], got, want)
				}
			}
		}
	}
}

func TestManyOfSingleBytes(t *testing.T) {
	b := noise(501, 5)
	l := make([][]byte, 0, len(b))
	for i := range b {
		l = append(l, b[i:i+1])
	}
	if got, want := sum16.Many(l...), plainOf(b); got != want {
		t.Errorf("P2.1: Many of single bytes: %d instead of %d", got, want)
	}
}

func TestTurn(t *testing.T) {
	for _, c := range []struct {
		sum      int
		old, now []byte
		want     int
	}{
		{0xdd2f, []byte{0x55, 0x55}, []byte{0x32, 0x85}, 0},
		{0xb861, []byte{0x40, 0x11}, []byte{0x3f, 0x11}, 0xb961},
		{0xb861, []byte{0, 0, 0x40, 0}, []byte{0, 1, 0x40, 0}, 0xb860},
		{65534, []byte{0, 1}, []byte{0, 2}, 65533},
		{65534, []byte{0, 1}, []byte{1, 0}, 65535 - 256},
		{65533, []byte{0, 1, 0, 1}, []byte{0, 3, 0, 4}, 65535 - 7},
		{100, []byte{0, 1, 0, 2}, []byte{0, 2, 0, 1}, 100},
		// Sums 0 and 65535.
		{0, []byte{255, 255}, []byte{255, 254}, 1},
		{0, []byte{255, 255}, []byte{255, 255}, 0},
		{0, []byte{255, 255}, []byte{0, 0}, 0},
		{0, []byte{0, 0}, []byte{0, 0}, 0},
		{65535, []byte{0, 0}, []byte{255, 255}, 0},
		{65535, []byte{0, 0}, []byte{0, 1}, 65534},
		{65535, []byte{0, 0}, []byte{0, 0}, 0},
		{65535, []byte{255, 255}, []byte{0, 0}, 65535},
		{65535, []byte{255, 255}, []byte{0, 1}, 65534},
		{65534, []byte{0, 1}, []byte{0, 0}, 0},
	} {
		if got := sum16.Turn(c.sum, c.old, c.now); got != c.want {
			t.Errorf("P2.1: Turn(%d, %v, %v): %d instead of %d", c.sum, c.old, c.now, got, c.want)
		}
	}
}

func TestTurnOfListsThatDoNotFit(t *testing.T) {
	for _, sum := range append([]int{12345}, extremes...) {
		for _, c := range []struct{ old, now []byte }{
			{nil, []byte{1}},
			{[]byte{1}, nil},
			{nil, []byte{1, 2}},
			{[]byte{1, 2}, nil},
			{[]byte{1, 2}, []byte{1}},
			{[]byte{1}, []byte{1, 2}},
			{[]byte{1, 2}, []byte{3, 4, 5, 6}},
			{[]byte{1, 2, 3, 4}, []byte{5, 6}},
			{[]byte{1, 2, 3}, []byte{4, 5}},
			{[]byte{1}, []byte{2}},
			{[]byte{1, 2, 3}, []byte{4, 5, 6}},
			{spare([]byte{1, 2, 3}), spare([]byte{4, 5, 6})},
			{spare([]byte{1, 2}), spare([]byte{4, 5, 6, 7})},
		} {
			if got := sum16.Turn(sum, c.old, c.now); got != sum {
				t.Errorf("P2.1: Turn(%d, %v, %v): %d", sum, c.old, c.now, got)
			}
		}
	}
}

func TestTurnOfNothing(t *testing.T) {
	for sum := range 1 << 16 {
		if got := sum16.Turn(sum, nil, []byte{}); got != sum {
			t.Fatalf("P2.1: Turn(%d) of no bytes: %d", sum, got)
		}
	}
	for _, c := range []struct{ sum, want int }{
		{65536, 0},
		{65536 + 5, 5},
		{131071, 65535},
		{-1, 65535},
		{-65536, 0},
		{math.MaxInt, 65535},
		{math.MinInt, 0},
	} {
		if got := sum16.Turn(c.sum, []byte{}, nil); got != c.want {
			t.Errorf("P2.1: Turn(%d) of no bytes: %d instead of %d", c.sum, got, c.want)
		}
	}
}

// plainTurn is the sentence of the chapter, term by term.
func plainTurn(sum int, old, now []byte) int {
	s := plainAdd(0, 65535-sum)
	for i := 0; i < len(old); i += 2 {
		s = plainAdd(s, 65535-(256*int(old[i])+int(old[i+1])))
	}
	for i := 0; i < len(now); i += 2 {
		s = plainAdd(s, 256*int(now[i])+int(now[i+1]))
	}
	return 65535 - s
}

func TestTurnAgainstAModel(t *testing.T) {
	for _, sum := range extremes {
		for n := 0; n < 40; n += 2 {
			old, now := noise(n, uint32(sum)), noise(n, uint32(sum)+1)
			for _, c := range [][2][]byte{
				{old, now}, {now, old}, {old, old},
				{repeat(0, n), now}, {old, repeat(0, n)}, {repeat(255, n), now}, {old, repeat(255, n)},
				{repeat(0, n), repeat(255, n)}, {repeat(255, n), repeat(0, n)}, {repeat(0, n), repeat(0, n)},
			} {
				if got, want := sum16.Turn(sum, c[0], c[1]), plainTurn(sum, c[0], c[1]); got != want {
					t.Fatalf("P2.1: Turn(%d, %v, %v): %d instead of %d", sum, c[0], c[1], got, want)
				}
			}
		}
	}
}

func TestFits(t *testing.T) {
	for i, c := range ofCases {
		if got := sum16.Fits(c.b); got != (c.want == 0) {
			t.Errorf("P2.1: Fits of number %d, %d bytes: %v, although Of is %d", i, len(c.b), got, c.want)
		}
	}
	if !sum16.Fits([]byte{255, 255}) || sum16.Fits(nil) || sum16.Fits([]byte{0, 0}) {
		t.Errorf("P2.1: Fits of 255, 255, of no bytes, or of 0, 0")
	}
}

func TestFitsWithItsChecksum(t *testing.T) {
	for n := 0; n < 60; n += 2 {
		b := noise(n, 3)
		s := sum16.Of(b)
		b = append(b, byte(s>>8), byte(s))
		if !sum16.Fits(b) {
			t.Fatalf("P2.1: Fits of %v: false", b)
		}
		for i := range 8 * len(b) {
			b[i/8] ^= 1 << (i % 8)
			if sum16.Fits(b) {
				t.Fatalf("P2.1: Fits of %v, where bit %d is wrong", b, i)
			}
			b[i/8] ^= 1 << (i % 8)
		}
	}
}

// checkTurned fails unless Turn of Of(b), for now at the place at, is Of of
// the changed bytes, where 0 may stand for 65535 if all of these are 0.
func checkTurned(t *testing.T, b []byte, at int, now []byte) {
	changed := replaced(b, at, now)
	got, want := sum16.Turn(sum16.Of(b), b[at:at+len(now)], now), sum16.Of(changed)
	if want == 65535 && got == 0 && bytes.Equal(changed, repeat(0, len(b))) {
		return
	}
	if got != want {
		t.Errorf("P2.2: Turn of %v at %d to %v: %d instead of %d", b, at, now, got, want)
	}
}

func TestTurnIsOfOfTheChangedBytes(t *testing.T) {
	for n := range 28 {
		for i, b := range [][]byte{noise(n, 1), noise(n, 2), repeat(0, n), repeat(255, n)} {
			for at := 0; at <= n; at += 2 {
				for size := 0; at+size <= n; size += 2 {
					checkTurned(t, b, at, noise(size, uint32(i+at)))
					checkTurned(t, b, at, repeat(0, size))
					checkTurned(t, b, at, repeat(255, size))
					checkTurned(t, b, at, bytes.Clone(b[at:at+size]))
				}
			}
		}
	}
}

// TestTurnOfOnePair turns a pair of bytes to and from values of the whole range,
// 0 and 65535 among them: beside it the bytes are such that sums 0 and 65535
// come up.
func TestTurnOfOnePair(t *testing.T) {
	for _, rest := range [][]byte{{0, 0, 0}, {0, 1, 0}, {255, 254, 0}, {255, 255, 7}, {18, 52, 86}} {
		for v := 0; v <= 65535; v += 17 {
			pair := []byte{byte(v >> 8), byte(v)}
			for _, other := range [][]byte{{0, 0}, {255, 255}, {0, 1}, {255, 254}, {205, 171}} {
				checkTurned(t, append(bytes.Clone(pair), rest...), 0, other)
				checkTurned(t, append(bytes.Clone(other), rest...), 0, pair)
			}
		}
	}
}

func TestTurnThereAndBack(t *testing.T) {
	for at := 0; at+2 <= len(header); at += 2 {
		old, now := header[at:at+2], []byte{0xab, 0xcd}
		there := sum16.Turn(0, old, now)
		if back := sum16.Turn(there, now, old); back != 0 {
			t.Errorf("P2.2: Turn there and back at %d: %d", at, back)
		}
	}
}

// TestArgumentsRemain looks at the lists that are passed, at the memory behind
// their ends, and at the list of lists.
func TestArgumentsRemain(t *testing.T) {
	for n := range 9 {
		old, now := spare(noise(n, 1)), spare(noise(n, 2))
		wantOld, wantNow := bytes.Clone(old[:n+8]), bytes.Clone(now[:n+8])
		l := append(make([][]byte, 0, 4), old, now)
		for range 2 {
			sum16.Of(old)
			sum16.Fits(now)
			sum16.Many(l...)
			sum16.Many(old, now)
			sum16.Turn(4321, old, now)
		}
		if !bytes.Equal(old[:n+8], wantOld) || !bytes.Equal(now[:n+8], wantNow) {
			t.Errorf("R4: lists of %d bytes are changed: %v, %v", n, old[:n+8], now[:n+8])
		}
		if l = l[:4]; l[2] != nil || l[3] != nil || !bytes.Equal(l[0], old) || !bytes.Equal(l[1], now) {
			t.Errorf("R4: the list of lists is changed: %v", l)
		}
	}
}

func TestResultsDependOnArgumentsAlone(t *testing.T) {
	for i, c := range ofCases[:20] {
		sum16.Many([]byte{9}, header, []byte{1, 2})
		sum16.Turn(i, header[:4], header[4:8])
		if got := sum16.Of(c.b); got != c.want {
			t.Errorf("R5: Of of number %d after other calls: %d instead of %d", i, got, c.want)
		}
		if got := sum16.Many(bytes.Clone(c.b), nil); got != c.want {
			t.Errorf("R5: Many of number %d after other calls: %d instead of %d", i, got, c.want)
		}
	}
	b := []byte{1, 2}
	before := sum16.Of(b)
	b[1] = 3
	if after := sum16.Of(b); before != 65535-258 || after != 65535-259 {
		t.Errorf("R5: Of of bytes that changed: %d, %d", before, after)
	}
}
