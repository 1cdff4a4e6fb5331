package dhcp_test

import (
	"bytes"
	"testing"

	"gatehouse/api"
	"gatehouse/dhcp"
	"gatehouse/opt"
)

// spare returns b in memory that goes on for 400 bytes behind its end.
func spare(b []byte) []byte {
	long := append(bytes.Clone(b), bytes.Repeat([]byte{0xee}, 400)...)
	return long[:len(b)]
}

// spoil writes over the bytes of b and all its spare capacity.
func spoil(b []byte) {
	b = b[:cap(b)]
	for i := range b {
		b[i] ^= 0xff
	}
}

// checkWhole fails unless b, which spare has made, is as it was, as far as its
// memory goes.
func checkWhole(t *testing.T, name string, b, was []byte) {
	t.Helper()
	if !bytes.Equal(b, was) || !bytes.Equal(b[:len(b)+400][len(b):], bytes.Repeat([]byte{0xee}, 400)) {
		t.Errorf("R4: %s changes its argument: %v", name, b[:len(b)+400])
	}
}

// joined is a message with several pieces of its options.
func joined() []byte {
	tail := append([]byte{5, 2, 1, 2, 53, 1, 3, 8, 255}, noise(255, 8)...)
	tail = append(tail, 8, 9)
	tail = append(tail, noise(9, 9)...)
	return withTail(append(tail, 5, 1, 6, 7, 0, 255, 1, 2, 3)...)
}

func joinedMessage() dhcp.Message {
	return withOpts(option(5, 1, 2, 6), option(53, 3), option(8, append(noise(255, 8), noise(9, 9)...)...), option(7))
}

func TestGetLeavesItsArgument(t *testing.T) {
	b := spare(joined())
	m, e := dhcp.Get(b)
	if e != api.OK || !same(m, joinedMessage()) {
		t.Fatalf("P13.1: Get: %+v, %d", m, e)
	}
	checkWhole(t, "Get", b, joined())
	spoil(b)
	if !same(m, joinedMessage()) {
		t.Errorf("R4: the result of Get shares its argument's memory: %+v", m)
	}
	b = spare(joined())
	m, _ = dhcp.Get(b)
	for _, o := range m.Opts {
		spoil(o.Body)
	}
	checkWhole(t, "a change of the result of Get", b, joined())
	b = spare(plainBytes()[:240])
	checkGetRefuses(t, b, api.ESHORT)
	checkWhole(t, "Get", b, plainBytes()[:240])
}

// TestGetReturnsNewMemory writes over each body with its spare capacity.
func TestGetReturnsNewMemory(t *testing.T) {
	want := joinedMessage()
	for i := range want.Opts {
		m, _ := dhcp.Get(joined())
		spoil(m.Opts[i].Body)
		m.Opts[i] = want.Opts[i]
		if !same(m, want) {
			t.Errorf("R4: the body %d shares memory with others: %+v", i, m)
		}
	}
	m, _ := dhcp.Get(joined())
	n, _ := dhcp.Get(joined())
	for i := range m.Opts {
		spoil(m.Opts[i].Body)
	}
	clear(m.Opts[:cap(m.Opts)])
	if !same(n, want) {
		t.Errorf("R4: two results of Get share memory: %+v", n)
	}
}

// optsWithSpare are options with others behind them, and bytes behind the bodies.
func optsWithSpare() []opt.Option {
	return list(opt.Option{Code: 53, Body: spare([]byte{3})}, opt.Option{Code: 6, Body: spare(nil)}, opt.Option{Code: 7, Body: spare(noise(600, 2))}, option(99, 9), option(98))
}

func checkOptsWithSpare(t *testing.T, name string, l []opt.Option) {
	t.Helper()
	for i, code := range []int{53, 6, 7, 99, 98} {
		if l[i].Code != code {
			t.Errorf("R4: %s changes its argument: %v", name, l)
		}
	}
	checkWhole(t, name, l[0].Body, []byte{3})
	checkWhole(t, name, l[1].Body, nil)
	checkWhole(t, name, l[2].Body, noise(600, 2))
	if !bytes.Equal(l[3].Body, []byte{9}) || l[4].Body != nil {
		t.Errorf("R4: %s changes what is behind its argument: %v", name, l[3:])
	}
}

func TestPutAndTypeLeaveTheirArguments(t *testing.T) {
	l := optsWithSpare()
	m := withOpts(l[:3]...)
	b, e := dhcp.Put(m)
	want, _ := plainPut(withOpts(option(53, 3), option(6), option(7, noise(600, 2)...)))
	if e != api.OK || !bytes.Equal(b, want) {
		t.Fatalf("P13.1: Put: %v, %d", b, e)
	}
	checkOptsWithSpare(t, "Put", l)
	spoil(b)
	checkOptsWithSpare(t, "a change of the result of Put", l)
	checkType(t, m, 3)
	checkOptsWithSpare(t, "Type", l)
	b, _ = dhcp.Put(m)
	for i := range m.Opts {
		spoil(m.Opts[i].Body)
		m.Opts[i] = opt.Option{}
	}
	if !bytes.Equal(b, want) {
		t.Errorf("R4: the result of Put shares its argument's memory: %v", b)
	}
	refused := dhcp.Message{Op: 3, Opts: optsWithSpare()[:3]}
	checkPutRefuses(t, refused, api.EARG)
	checkOptsWithSpare(t, "Put", refused.Opts[:5])
}

func TestPutReturnsNewMemory(t *testing.T) {
	for _, m := range []dhcp.Message{plain(), joinedMessage()} {
		b, _ := dhcp.Put(m)
		c, _ := dhcp.Put(m)
		want := bytes.Clone(c)
		spoil(b)
		if !bytes.Equal(c, want) {
			t.Errorf("R4: two results of Put share memory: %v", c)
		}
		checkPut(t, m, want)
	}
}

// TestResultsDependOnArgumentsAlone has calls that succeed and fail by turns.
func TestResultsDependOnArgumentsAlone(t *testing.T) {
	for range 3 {
		checkGet(t, plainBytes(), plain())
		checkGetRefuses(t, changed(0, 3), api.EFORM)
		checkGet(t, withTail(53, 1, 1, 255), withOpts(option(53, 1)))
		checkGetRefuses(t, withTail(53, 1, 1), api.ESHORT)
		checkPut(t, plain(), plainBytes())
		checkPutRefuses(t, withOpts(), api.EARG)
		checkPutRefuses(t, withOpts(option(53, 1), sized(5, 2000)), api.ELIMIT)
		checkType(t, plain(), 3)
		checkType(t, withOpts(), 0)
	}
}

// TestCallsAtTheSameTime has calls that share their arguments.
func TestCallsAtTheSameTime(t *testing.T) {
	b, m := joined(), joinedMessage()
	want, _ := plainPut(m)
	for range 8 {
		t.Run("calls", func(t *testing.T) {
			t.Parallel()
			for range 200 {
				checkGet(t, b, m)
				checkPut(t, m, want)
				checkType(t, m, 3)
			}
		})
	}
}
