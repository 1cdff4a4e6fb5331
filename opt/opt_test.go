package opt_test

import (
	"bytes"
	"math"
	"slices"
	"testing"

	"gatehouse/api"
	"gatehouse/opt"
)

// wrongCodes are those of no option that Put accepts. Many of them become a
// permitted one if they are cut to 8, 16 or 32 bits.
var wrongCodes = []int{
	0, 255, 256, 257, 309, 510, 511, 512, 65535, 65536, 65537, 1<<32 + 1, 1<<32 + 254, math.MaxInt32, math.MaxInt - 1, math.MaxInt,
	-1, -2, -203, -254, -255, -256, -65535, -(1 << 32) + 1, math.MinInt32, math.MinInt32 + 1, math.MinInt, math.MinInt + 1,
}

// noise returns n bytes that look irregular and depend on seed alone.
func noise(n, seed int) []byte {
	b := make([]byte, n)
	state := uint32(seed)*2654435761 + 1
	for i := range b {
		state = state*1664525 + 1013904223
		b[i] = byte(state >> 24)
	}
	return b
}

// option returns an option whose Body has these bytes.
func option(code int, body ...byte) opt.Option { return opt.Option{Code: code, Body: body} }

// sized returns an option with n bytes.
func sized(code, n int) opt.Option { return opt.Option{Code: code, Body: noise(n, code+n)} }

// list returns its arguments.
func list(l ...opt.Option) []opt.Option { return l }

// join returns the parts one after the other.
func join(parts ...[]byte) []byte { return slices.Concat(parts...) }

// same reports whether two lists of options agree: a nil Body and an empty one
// are equivalent.
func same(l, m []opt.Option) bool {
	return slices.EqualFunc(l, m, func(o, p opt.Option) bool {
		return o.Code == p.Code && bytes.Equal(o.Body, p.Body)
	})
}

func checkGet(t *testing.T, b []byte, want ...opt.Option) {
	t.Helper()
	l, e := opt.Get(b)
	if e != api.OK || !same(l, want) {
		t.Errorf("P12.1: Get(%v): %v, %d instead of %v", b, l, e, want)
	}
}

func checkShort(t *testing.T, b []byte) {
	t.Helper()
	l, e := opt.Get(b)
	if e != api.ESHORT {
		t.Errorf("P12.1: Get(%v): %d instead of %d", b, e, api.ESHORT)
	}
	if len(l) != 0 {
		t.Errorf("R2: Get(%v) with the error %d: %v", b, e, l)
	}
}

func checkPut(t *testing.T, l []opt.Option, want []byte) {
	t.Helper()
	b, e := opt.Put(l)
	if e != api.OK || !bytes.Equal(b, want) {
		t.Errorf("P12.1: Put(%v): %v, %d instead of %v", l, b, e, want)
	}
}

func checkPutRefuses(t *testing.T, l []opt.Option, want api.Errno) {
	t.Helper()
	b, e := opt.Put(l)
	if e != want {
		t.Errorf("P12.1: Put of %d options: %d instead of %d", len(l), e, want)
	}
	if len(b) != 0 {
		t.Errorf("R2: Put of %d options with the error %d: %v", len(l), e, b)
	}
}

func checkFind(t *testing.T, l []opt.Option, code int, want []byte) {
	t.Helper()
	if b, ok := opt.Find(l, code); !ok || !bytes.Equal(b, want) {
		t.Errorf("P12.1: Find(%v, %d): %v, %v instead of %v", l, code, b, ok, want)
	}
}

func checkFindsNone(t *testing.T, l []opt.Option, code int) {
	t.Helper()
	if b, ok := opt.Find(l, code); ok || len(b) != 0 {
		t.Errorf("P12.1, R2: Find(%v, %d): %v, %v instead of none", l, code, b, ok)
	}
	checkNotFour(t, l, code)
}

// checkFour has an option of exactly four bytes, as an address and as a number.
func checkFour(t *testing.T, l []opt.Option, code int, want api.Addr, wantSecs uint32) {
	t.Helper()
	if a, ok := opt.Addr(l, code); !ok || a != want {
		t.Errorf("P12.1: Addr(%v, %d): %v, %v instead of %v", l, code, a, ok, want)
	}
	if n, ok := opt.Secs(l, code); !ok || n != wantSecs {
		t.Errorf("P12.1: Secs(%v, %d): %d, %v instead of %d", l, code, n, ok, wantSecs)
	}
}

// checkNotFour has an option of another size, or none.
func checkNotFour(t *testing.T, l []opt.Option, code int) {
	t.Helper()
	if a, ok := opt.Addr(l, code); ok || a != (api.Addr{}) {
		t.Errorf("P12.1, R2: Addr(%v, %d): %v, %v instead of none", l, code, a, ok)
	}
	if n, ok := opt.Secs(l, code); ok || n != 0 {
		t.Errorf("P12.1, R2: Secs(%v, %d): %d, %v instead of none", l, code, n, ok)
	}
}

func TestGetExampleOfTheChapter(t *testing.T) {
	checkGet(t, []byte{53, 1, 1, 255}, option(53, 1))
}

func TestGetOfOneOption(t *testing.T) {
	for code := 1; code <= 254; code++ {
		for _, size := range []int{0, 1, 2, 4, 127, 128, 254, 255} {
			body := noise(size, code)
			b := join([]byte{byte(code), byte(size)}, body, []byte{255})
			checkGet(t, b, opt.Option{Code: code, Body: body})
		}
	}
	for size := range 256 {
		body := noise(size, 7)
		checkGet(t, join([]byte{7, byte(size)}, body, []byte{255}), opt.Option{Code: 7, Body: body})
	}
}

// TestGetOfAllCodes has an option of each Code, in rising and in falling order.
func TestGetOfAllCodes(t *testing.T) {
	var b []byte
	var want []opt.Option
	for code := 1; code <= 254; code++ {
		b = append(b, byte(code), 2, byte(code), 9)
		want = append(want, option(code, byte(code), 9))
	}
	checkGet(t, append(b, 255), want...)
	b = nil
	slices.Reverse(want)
	for _, o := range want {
		b = append(b, byte(o.Code), 2, byte(o.Code), 9)
	}
	checkGet(t, append(b, 255), want...)
}

func TestGetSkipsZeros(t *testing.T) {
	checkGet(t, []byte{0, 255})
	checkGet(t, []byte{0, 0, 0, 255})
	checkGet(t, []byte{0, 53, 1, 1, 255}, option(53, 1))
	checkGet(t, []byte{53, 1, 1, 0, 255}, option(53, 1))
	checkGet(t, []byte{0, 0, 3, 1, 9, 0, 0, 0, 4, 0, 0, 255}, option(3, 9), option(4))
	checkGet(t, []byte{3, 1, 9, 0, 3, 1, 8, 255}, option(3, 9, 8))
	checkGet(t, append(make([]byte, 5000), 255))
}

func TestGetIgnoresWhatFollowsTheEnd(t *testing.T) {
	for _, rest := range [][]byte{
		nil, {0}, {255}, {255, 255}, {7}, {7, 1}, {7, 2, 1}, {7, 1, 1}, {53, 1, 2}, {53, 1, 2, 255}, {7, 255}, {0, 0, 0, 0, 0, 0},
	} {
		checkGet(t, append([]byte{255}, rest...))
		checkGet(t, append([]byte{53, 1, 1, 255}, rest...), option(53, 1))
		checkGet(t, append([]byte{0, 53, 0, 0, 255}, rest...), option(53))
	}
}

// TestGetKeepsBodies has bytes in a body, and in a length, that mean something
// else where a Code may stand.
func TestGetKeepsBodies(t *testing.T) {
	checkGet(t, []byte{7, 1, 255, 255}, option(7, 255))
	checkGet(t, []byte{7, 1, 0, 255}, option(7, 0))
	checkGet(t, []byte{7, 4, 0, 255, 7, 1, 255}, option(7, 0, 255, 7, 1))
	checkGet(t, []byte{7, 2, 255, 255, 8, 2, 0, 0, 255}, option(7, 255, 255), option(8, 0, 0))
	full := bytes.Repeat([]byte{255}, 255)
	checkGet(t, join([]byte{7, 255}, full, []byte{255}), opt.Option{Code: 7, Body: full})
	zeros := make([]byte, 255)
	checkGet(t, join([]byte{7, 255}, zeros, []byte{255}), opt.Option{Code: 7, Body: zeros})
}

func TestGetKeepsTheOrder(t *testing.T) {
	checkGet(t, []byte{9, 1, 1, 3, 1, 2, 254, 1, 3, 1, 1, 4, 255}, option(9, 1), option(3, 2), option(254, 3), option(1, 4))
}

func TestGetJoins(t *testing.T) {
	checkGet(t, []byte{5, 1, 1, 5, 1, 2, 255}, option(5, 1, 2))
	checkGet(t, []byte{5, 1, 1, 6, 1, 2, 5, 2, 3, 4, 255}, option(5, 1, 3, 4), option(6, 2))
	checkGet(t, []byte{6, 1, 2, 5, 1, 1, 6, 1, 4, 5, 1, 3, 255}, option(6, 2, 4), option(5, 1, 3))
	checkGet(t, []byte{1, 1, 9, 2, 1, 8, 3, 1, 7, 3, 1, 6, 2, 1, 5, 1, 1, 4, 255}, option(1, 9, 4), option(2, 8, 5), option(3, 7, 6))
	checkGet(t, []byte{254, 1, 9, 1, 1, 8, 254, 1, 7, 1, 1, 6, 255}, option(254, 9, 7), option(1, 8, 6))
	checkGet(t, []byte{5, 1, 2, 5, 1, 1, 5, 1, 2, 255}, option(5, 2, 1, 2))
}

// TestGetJoinsEmptyOnes has bodies without bytes before, between and after others.
func TestGetJoinsEmptyOnes(t *testing.T) {
	checkGet(t, []byte{5, 0, 5, 0, 255}, option(5))
	checkGet(t, []byte{5, 0, 6, 1, 2, 5, 1, 1, 255}, option(5, 1), option(6, 2))
	checkGet(t, []byte{5, 1, 1, 6, 1, 2, 5, 0, 255}, option(5, 1), option(6, 2))
	checkGet(t, []byte{5, 1, 1, 5, 0, 6, 0, 5, 1, 2, 255}, option(5, 1, 2), option(6))
}

// TestGetJoinsLongOnes has more bytes than a piece holds, and pieces that are
// not full.
func TestGetJoinsLongOnes(t *testing.T) {
	body := noise(20000, 3)
	for _, size := range []int{1, 2, 100, 254, 255} {
		b := []byte{4, 0}
		for part := range slices.Chunk(body, size) {
			b = append(b, 77, byte(len(part)))
			b = append(b, part...)
			b = append(b, 0, 4, 1, 1)
		}
		fours := bytes.Repeat([]byte{1}, (len(body)+size-1)/size)
		checkGet(t, append(b, 255), opt.Option{Code: 4, Body: fours}, opt.Option{Code: 77, Body: body})
	}
}

// TestGetOfManyPieces has so many of them that each may only take a short time.
func TestGetOfManyPieces(t *testing.T) {
	checkGet(t, append(bytes.Repeat([]byte{5, 0}, 1<<20), 255), option(5))
	ones := bytes.Repeat([]byte{5, 1, 1}, 1<<20)
	checkGet(t, append(ones, 255), opt.Option{Code: 5, Body: bytes.Repeat([]byte{1}, 1<<20)})
	checkShort(t, append(ones, 5))
	checkGet(t, append(make([]byte, 1<<20), 5, 1, 1, 255), option(5, 1))
}

func TestGetOfTooFew(t *testing.T) {
	for _, b := range [][]byte{
		nil, {}, {0}, {0, 0, 0}, {5}, {5, 0}, {5, 1}, {5, 1, 1}, {5, 2, 1}, {5, 2, 255}, {5, 255}, {5, 255, 255}, {5, 1, 255},
		{0, 5}, {0, 5, 1}, {5, 0, 0}, {5, 1, 1, 0}, {5, 1, 1, 5}, {5, 1, 1, 5, 1}, {5, 1, 1, 5, 9, 2, 255}, {5, 1, 1, 6, 2, 255},
		{254}, {254, 0}, {254, 1}, {254, 254}, {1, 2, 3}, {53, 1, 1},
	} {
		checkShort(t, b)
	}
	for size := 1; size <= 255; size++ {
		checkShort(t, append([]byte{7, byte(size)}, noise(size-1, size)...))
		checkShort(t, append([]byte{7, byte(size)}, bytes.Repeat([]byte{255}, size)...))
		checkShort(t, append([]byte{7, byte(size)}, make([]byte, size)...))
	}
}

// TestGetOfEachBeginning cuts a list of options at each place before its end.
func TestGetOfEachBeginning(t *testing.T) {
	whole, e := opt.Put(list(option(53, 1), option(55), sized(43, 300), option(50, 255, 255, 255, 255), option(12, 0)))
	if e != api.OK {
		t.Fatalf("P12.1: Put: %d", e)
	}
	for n := range len(whole) {
		checkShort(t, whole[:n])
	}
}

func TestPutOfNone(t *testing.T) {
	checkPut(t, nil, []byte{255})
	checkPut(t, []opt.Option{}, []byte{255})
}

func TestPutOfEachCode(t *testing.T) {
	for code := 1; code <= 254; code++ {
		checkPut(t, list(option(code)), []byte{byte(code), 0, 255})
		checkPut(t, list(option(code, 9, 8)), []byte{byte(code), 2, 9, 8, 255})
	}
}

func TestPutKeepsTheOrder(t *testing.T) {
	checkPut(t, list(option(9, 1), option(3), option(254, 3, 0), option(1, 255)), []byte{9, 1, 1, 3, 0, 254, 2, 3, 0, 1, 1, 255, 255})
}

// TestPutInPieces has bodies of all sizes that Put accepts.
func TestPutInPieces(t *testing.T) {
	for n := range 1190 {
		o := sized(200, n)
		want := []byte{}
		if n == 0 {
			want = []byte{200, 0}
		}
		for part := range slices.Chunk(o.Body, 255) {
			want = append(want, 200, byte(len(part)))
			want = append(want, part...)
		}
		checkPut(t, list(o), append(want, 255))
	}
}

// TestPutOfEdges has bodies of just as many bytes as pieces hold.
func TestPutOfEdges(t *testing.T) {
	for _, c := range []struct {
		n    int
		want []byte
	}{
		{0, []byte{0}}, {1, []byte{1}}, {254, []byte{254}}, {255, []byte{255}},
		{256, []byte{255, 1}}, {509, []byte{255, 254}}, {510, []byte{255, 255}}, {511, []byte{255, 255, 1}},
		{765, []byte{255, 255, 255}}, {766, []byte{255, 255, 255, 1}}, {1020, []byte{255, 255, 255, 255}}, {1021, []byte{255, 255, 255, 255, 1}},
	} {
		b, e := opt.Put(list(option(1, 4), sized(2, c.n), option(3)))
		if e != api.OK || !bytes.Equal(b[:3], []byte{1, 1, 4}) {
			t.Errorf("P12.1: Put of %d bytes: %d", c.n, e)
			continue
		}
		b = b[3:]
		for _, size := range c.want {
			if b[0] != 2 || b[1] != size {
				t.Errorf("P12.1: Put of %d bytes: a piece begins with %v instead of 2, %d", c.n, b[:2], size)
			}
			b = b[2+int(b[1]):]
		}
		if !bytes.Equal(b, []byte{3, 0, 255}) {
			t.Errorf("P12.1: Put of %d bytes ends with %v", c.n, b)
		}
	}
}

func TestPutRefusesCodes(t *testing.T) {
	for _, code := range wrongCodes {
		checkPutRefuses(t, list(option(code)), api.EARG)
		checkPutRefuses(t, list(option(code, 1)), api.EARG)
		checkPutRefuses(t, list(option(53, 1), option(code, 1)), api.EARG)
		checkPutRefuses(t, list(option(code, 1), option(53, 1)), api.EARG)
	}
}

func TestPutRefusesCodesThatOccurTwice(t *testing.T) {
	for code := 1; code <= 254; code++ {
		checkPutRefuses(t, list(option(code, 1), option(code, 2)), api.EARG)
	}
	checkPutRefuses(t, list(option(5), option(5)), api.EARG)
	checkPutRefuses(t, list(option(5, 1), option(5, 1)), api.EARG)
	checkPutRefuses(t, list(option(5), option(6), option(5)), api.EARG)
	checkPutRefuses(t, list(option(6), option(5), option(7), option(5)), api.EARG)
	checkPutRefuses(t, list(option(5), option(5), option(5)), api.EARG)
	checkPutRefuses(t, list(option(1), option(254), option(254)), api.EARG)
}

// TestPutLimit has results of 1200 bytes, and then of 1201.
func TestPutLimit(t *testing.T) {
	for _, c := range []struct {
		fits, not []opt.Option
	}{
		{list(sized(1, 1189)), list(sized(1, 1190))},
		{list(sized(1, 1186), option(2, 9)), list(sized(1, 1187), option(2, 9))},
		{list(option(2, 9), sized(1, 1186)), list(option(2, 9), sized(1, 1187))},
		{list(sized(1, 1186), option(2, 9)), list(sized(1, 1186), option(2, 9, 9))},
		{list(sized(1, 1187), option(2)), list(sized(1, 1188), option(2))},
		{list(sized(1, 600), sized(2, 587)), list(sized(1, 600), sized(2, 588))},
		{list(sized(1, 255), sized(2, 255), sized(3, 255), sized(4, 255), sized(5, 169)), list(sized(1, 255), sized(2, 255), sized(3, 255), sized(4, 255), sized(5, 170))},
		{list(sized(1, 256), sized(2, 256), sized(3, 256), sized(4, 256), sized(5, 157)), list(sized(1, 257), sized(2, 256), sized(3, 256), sized(4, 256), sized(5, 157))},
	} {
		b, e := opt.Put(c.fits)
		if e != api.OK || len(b) != 1200 {
			t.Errorf("P12.1: Put of what fits: %d bytes, %d", len(b), e)
		}
		checkPutRefuses(t, c.not, api.ELIMIT)
	}
	for _, n := range []int{1191, 1192, 1199, 1200, 1201, 1275, 1276, 1300, 2000, 65535, 65536, 1 << 20} {
		checkPutRefuses(t, list(sized(1, n)), api.ELIMIT)
		checkPutRefuses(t, list(option(2), sized(1, n), option(3)), api.ELIMIT)
	}
}

// TestPutOfManyOptions has as many as there are, which fit in if they are short.
func TestPutOfManyOptions(t *testing.T) {
	var l []opt.Option
	want := []byte{}
	for code := 254; code >= 1; code-- {
		l = append(l, option(code, byte(code), 1))
		want = append(want, byte(code), 2, byte(code), 1)
	}
	checkPut(t, l, append(want, 255))
	l[0].Body = noise(2+183, 0)
	if b, e := opt.Put(l); e != api.OK || len(b) != 1200 {
		t.Errorf("P12.1: Put of 254 options: %d bytes, %d", len(b), e)
	}
	l[0].Body = noise(2+184, 0)
	checkPutRefuses(t, l, api.ELIMIT)
	checkPutRefuses(t, append(l, option(100)), api.EARG)
}

// TestPutErrorOrder has options with too many bytes before and after ones with
// a Code that is not permitted.
func TestPutErrorOrder(t *testing.T) {
	long := sized(5, 5000)
	for _, code := range append(wrongCodes, 5) {
		checkPutRefuses(t, list(long, option(code)), api.EARG)
		checkPutRefuses(t, list(option(code), long), api.EARG)
		checkPutRefuses(t, list(long, option(6), option(7), option(code)), api.EARG)
		checkPutRefuses(t, list(sized(code, 5000), option(code)), api.EARG)
	}
	checkPutRefuses(t, list(long, option(6), option(6)), api.EARG)
	checkPutRefuses(t, list(long, sized(6, 5000)), api.ELIMIT)
}

func TestFind(t *testing.T) {
	l := list(option(3, 1), option(53, 2, 3), option(7), option(255, 5), option(0, 6), option(-1, 7), option(309, 8), option(254, 9))
	checkFind(t, l, 3, []byte{1})
	checkFind(t, l, 53, []byte{2, 3})
	checkFind(t, l, 7, nil)
	checkFind(t, l, 255, []byte{5})
	checkFind(t, l, 0, []byte{6})
	checkFind(t, l, -1, []byte{7})
	checkFind(t, l, 309, []byte{8})
	checkFind(t, l, 254, []byte{9})
	for _, code := range []int{1, 2, 4, 52, 54, 253, -2, -3, -203, 256, 257, 259, 65539, 1<<32 + 3, math.MaxInt, math.MinInt} {
		checkFindsNone(t, l, code)
	}
	for _, code := range append(wrongCodes, 1, 53, 254) {
		checkFindsNone(t, nil, code)
		checkFindsNone(t, []opt.Option{}, code)
		checkFindsNone(t, list(option(7, byte(code)), option(8)), code)
		checkFind(t, list(option(code, 1)), code, []byte{1})
		checkFind(t, list(option(7, 1, 2), option(8), option(code, 3), option(code, 4)), code, []byte{3})
	}
}

func TestFindTakesTheFirst(t *testing.T) {
	l := list(option(1, 5), option(3, 1), option(3, 2, 3, 4, 5), option(6), option(6, 1, 2, 3, 4), option(3))
	checkFind(t, l, 3, []byte{1})
	checkNotFour(t, l, 3)
	checkFind(t, l, 6, nil)
	checkNotFour(t, l, 6)
	l = list(option(3, 9, 8, 7, 6), option(3, 1, 2, 3, 4))
	checkFind(t, l, 3, []byte{9, 8, 7, 6})
	checkFour(t, l, 3, api.Addr{9, 8, 7, 6}, 0x09080706)
}

// TestFindOfLongOnes has bodies that no single piece holds.
func TestFindOfLongOnes(t *testing.T) {
	for _, n := range []int{255, 256, 260, 1189, 65536, 65540, 1 << 20} {
		l := list(option(1), sized(3, n))
		checkFind(t, l, 3, noise(n, 3+n))
		checkNotFour(t, l, 3)
	}
}

func TestAddrAndSecsExamplesOfTheChapter(t *testing.T) {
	l := list(option(3, 10, 0, 0, 1), option(51, 0, 1, 0, 0))
	checkFour(t, l, 3, api.Addr{10, 0, 0, 1}, 0x0a000001)
	checkFour(t, l, 51, api.Addr{0, 1, 0, 0}, 65536)
}

func TestAddrAndSecs(t *testing.T) {
	for _, c := range []struct {
		a api.Addr
		n uint32
	}{
		{api.Addr{}, 0}, {api.Addr{0, 0, 0, 1}, 1}, {api.Addr{1, 2, 3, 4}, 0x01020304}, {api.Addr{127, 255, 255, 255}, math.MaxInt32},
		{api.Addr{128}, 1 << 31}, {api.Addr{255, 255, 255, 255}, math.MaxUint32}, {api.Addr{0, 0, 1}, 256}, {api.Addr{0, 1}, 65536}, {api.Addr{1}, 1 << 24},
	} {
		for _, code := range append(wrongCodes, 1, 3, 51, 254) {
			l := list(option(2, 7), option(code, c.a[:]...), option(code, 9, 9, 9, 9))
			checkFour(t, l, code, c.a, c.n)
		}
	}
}

func TestAddrAndSecsOfOtherSizes(t *testing.T) {
	for n := range 300 {
		if n == 4 {
			continue
		}
		checkNotFour(t, list(option(2, 1, 2, 3, 4), sized(3, n), option(4, 5, 6, 7, 8)), 3)
	}
	for _, n := range []int{256 + 4, 65536 + 4} {
		checkNotFour(t, list(sized(3, n)), 3)
	}
}
