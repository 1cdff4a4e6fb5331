package opt_test

import (
	"bytes"
	"testing"

	"gatehouse/api"
	"gatehouse/opt"
)

// spare returns b in memory that goes on for 40 bytes behind its end.
func spare(b []byte) []byte {
	long := append(bytes.Clone(b), bytes.Repeat([]byte{0xee}, 40)...)
	return long[:len(b)]
}

// spoil writes over the bytes of b and all its spare capacity.
func spoil(b []byte) {
	b = b[:cap(b)]
	for i := range b {
		b[i] ^= 0xff
	}
}

// checkWhole fails unless b, which spare has made, is as it was, as far as its
// memory goes.
func checkWhole(t *testing.T, name string, b, was []byte) {
	t.Helper()
	if !bytes.Equal(b, was) || !bytes.Equal(b[:len(b)+40][len(b):], bytes.Repeat([]byte{0xee}, 40)) {
		t.Errorf("R4: %s changes its argument: %v", name, b[:len(b)+40])
	}
}

// written is a list of options with several pieces of each, in both orders.
func written() []byte {
	b := []byte{5, 2, 1, 2, 6, 1, 3, 7, 0, 8, 255}
	b = append(b, noise(255, 8)...)
	b = append(b, 8, 9)
	b = append(b, noise(9, 9)...)
	return append(b, 6, 2, 4, 5, 5, 1, 6, 7, 1, 7, 255, 1, 2, 3)
}

func writtenOptions() []opt.Option {
	return list(option(5, 1, 2, 6), option(6, 3, 4, 5), option(7, 7), option(8, join(noise(255, 8), noise(9, 9))...))
}

func TestGetLeavesItsArgument(t *testing.T) {
	b := spare(written())
	l, e := opt.Get(b)
	if e != api.OK || !same(l, writtenOptions()) {
		t.Fatalf("P12.1: Get: %v, %d", l, e)
	}
	checkWhole(t, "Get", b, written())
	spoil(b)
	if !same(l, writtenOptions()) {
		t.Errorf("R4: the result of Get shares its argument's memory: %v", l)
	}
	b = spare(written())
	l, _ = opt.Get(b)
	for _, o := range l {
		spoil(o.Body)
	}
	checkWhole(t, "a change of the result of Get", b, written())
}

// TestGetReturnsNewMemory writes over each body with its spare capacity.
func TestGetReturnsNewMemory(t *testing.T) {
	for i := range writtenOptions() {
		l, _ := opt.Get(written())
		spoil(l[i].Body)
		l[i] = writtenOptions()[i]
		if !same(l, writtenOptions()) {
			t.Errorf("R4: the body %d shares memory with others: %v", i, l)
		}
	}
	l, _ := opt.Get(written())
	m, _ := opt.Get(written())
	for i := range l {
		spoil(l[i].Body)
	}
	clear(l[:cap(l)])
	if !same(m, writtenOptions()) {
		t.Errorf("R4: two results of Get share memory: %v", m)
	}
}

func TestPutLeavesItsArgument(t *testing.T) {
	backing := []opt.Option{
		{Code: 5, Body: spare(noise(3, 1))}, {Code: 6, Body: spare(nil)}, {Code: 7, Body: spare(noise(600, 2))}, {Code: 99, Body: []byte{9}}, {Code: 98},
	}
	l := backing[:3]
	b, e := opt.Put(l)
	want, _ := plainPut(list(option(5, noise(3, 1)...), option(6), option(7, noise(600, 2)...)))
	if e != api.OK || !bytes.Equal(b, want) {
		t.Fatalf("P12.1: Put: %v, %d", b, e)
	}
	checkPutArguments(t, "Put", backing)
	spoil(b)
	checkPutArguments(t, "a change of the result of Put", backing)
	b, _ = opt.Put(l)
	for i := range l {
		spoil(l[i].Body)
		l[i] = opt.Option{}
	}
	if !bytes.Equal(b, want) {
		t.Errorf("R4: the result of Put shares its argument's memory: %v", b)
	}
}

func checkPutArguments(t *testing.T, name string, backing []opt.Option) {
	t.Helper()
	codes := []int{5, 6, 7, 99, 98}
	for i, o := range backing {
		if o.Code != codes[i] {
			t.Errorf("R4: %s changes its argument: %v", name, backing)
		}
	}
	checkWhole(t, name, backing[0].Body, noise(3, 1))
	checkWhole(t, name, backing[1].Body, nil)
	checkWhole(t, name, backing[2].Body, noise(600, 2))
	if !bytes.Equal(backing[3].Body, []byte{9}) || backing[4].Body != nil {
		t.Errorf("R4: %s changes what is behind its argument: %v", name, backing[3:])
	}
}

// TestPutSharesBodies has two options with one memory, which is only read.
func TestPutSharesBodies(t *testing.T) {
	body := []byte{1, 2, 3, 4}
	l := list(opt.Option{Code: 5, Body: body[:3]}, opt.Option{Code: 6, Body: body[1:]}, opt.Option{Code: 7, Body: body[:0]})
	checkPut(t, l, []byte{5, 3, 1, 2, 3, 6, 3, 2, 3, 4, 7, 0, 255})
	if !bytes.Equal(body, []byte{1, 2, 3, 4}) {
		t.Errorf("R4: Put changes its argument: %v", body)
	}
}

func TestPutReturnsNewMemory(t *testing.T) {
	l := writtenOptions()
	b, _ := opt.Put(l)
	c, _ := opt.Put(l)
	want := bytes.Clone(c)
	spoil(b)
	if !bytes.Equal(c, want) {
		t.Errorf("R4: two results of Put share memory: %v", c)
	}
	b, _ = opt.Put(nil)
	spoil(b)
	checkPut(t, nil, []byte{255})
}

func TestFindLeavesItsArgument(t *testing.T) {
	for _, n := range []int{0, 1, 4, 5, 255, 300} {
		l := list(option(1, 7), opt.Option{Code: 3, Body: spare(noise(n, n))}, option(4, 1, 2, 3, 4))
		b, _ := opt.Find(l, 3)
		c, _ := opt.Find(l, 3)
		opt.Addr(l, 3)
		opt.Secs(l, 3)
		checkWhole(t, "Find", l[1].Body, noise(n, n))
		spoil(b)
		checkWhole(t, "a change of the result of Find", l[1].Body, noise(n, n))
		if !bytes.Equal(c, noise(n, n)) {
			t.Errorf("R4: two results of Find share memory: %v", c)
		}
		spoil(l[1].Body)
		if !bytes.Equal(c, noise(n, n)) {
			t.Errorf("R4: the result of Find shares its argument's memory: %v", c)
		}
		checkFind(t, l, 1, []byte{7})
		checkFour(t, l, 4, api.Addr{1, 2, 3, 4}, 0x01020304)
	}
}

// TestResultsDependOnArgumentsAlone has calls that succeed and fail by turns.
func TestResultsDependOnArgumentsAlone(t *testing.T) {
	for range 3 {
		checkGet(t, []byte{5, 1, 1, 255}, option(5, 1))
		checkShort(t, []byte{5, 1, 1, 5, 9, 2})
		checkGet(t, []byte{6, 1, 2, 5, 1, 3, 255}, option(6, 2), option(5, 3))
		checkPut(t, list(option(5, 1)), []byte{5, 1, 1, 255})
		checkPutRefuses(t, list(option(5, 1), option(5)), api.EARG)
		checkPut(t, list(option(5, 1), option(6)), []byte{5, 1, 1, 6, 0, 255})
		checkPutRefuses(t, list(sized(5, 2000)), api.ELIMIT)
		checkPut(t, nil, []byte{255})
	}
}

// TestCallsAtTheSameTime has calls that share their arguments.
func TestCallsAtTheSameTime(t *testing.T) {
	b, l := written(), writtenOptions()
	want, _ := plainPut(l)
	for range 8 {
		t.Run("calls", func(t *testing.T) {
			t.Parallel()
			for range 200 {
				checkGet(t, b, l...)
				checkPut(t, l, want)
				checkFind(t, l, 5, []byte{1, 2, 6})
				checkNotFour(t, l, 5)
			}
		})
	}
}
