package conf_test

import (
	"math"
	"testing"

	"gatehouse/addr"
	"gatehouse/api"
	"gatehouse/conf"
)

// checkCheck checks what Check and Text say of c, and that what Check accepts
// comes back from its text.
func checkCheck(t *testing.T, c conf.Conf, want api.Errno) {
	t.Helper()
	if e := conf.Check(c); e != want {
		t.Errorf("P10.1: Check(%v): %d instead of %d", c, e, want)
	}
	if want == api.OK {
		checkRound(t, c)
	} else {
		checkText(t, c, "")
	}
}

// changed returns base after it has been changed, with lists of its own.
func changed(base conf.Conf, change func(c *conf.Conf)) conf.Conf {
	c := copied(base)
	change(&c)
	return c
}

// someNumbers are numbers at all edges that the chapter names, and far ones
// which would be permitted if they were cut to 8, 16 or 32 bits.
func someNumbers() []int {
	list := []int{math.MinInt, math.MinInt + 1, math.MaxInt, math.MaxInt - 1, 1<<32 + 60, 1<<32 + 24, -1 << 32, 1<<16 + 80, 1<<40 + 40000, 3600 - 1<<32, 264, 280, -232}
	for _, edge := range []int{0, 6, 8, 10, 17, 24, 25, 30, 32, 60, 1024, 1025, 40000, 60000, 65535, 86400} {
		for v := edge - 2; v <= edge+2; v++ {
			list = append(list, v, -v)
		}
	}
	return list
}

func TestCheckAcceptsBases(t *testing.T) {
	checkCheck(t, usual(), api.OK)
	checkCheck(t, full(), api.OK)
	checkCheck(t, conf.Conf{}, api.EARG)
}

// TestCheckOfEachNumber puts many numbers into each field, and asks the chapter
// which of them it permits.
func TestCheckOfEachNumber(t *testing.T) {
	for _, base := range []conf.Conf{usual(), full()} {
		for _, v := range someNumbers() {
			for _, place := range []struct {
				set         func(c *conf.Conf)
				least, most int
			}{
				{func(c *conf.Conf) { c.Time = v }, 60, 86400},
				{func(c *conf.Conf) { c.UdpTime = v }, 10, 86400},
				{func(c *conf.Conf) { c.TcpTime = v }, 10, 86400},
				{func(c *conf.Conf) { c.IcmpTime = v }, 10, 86400},
				{func(c *conf.Conf) { c.Low = v; c.Open = nil }, 1024, 60000},
				{func(c *conf.Conf) { c.Open = opens(c, 17, v, 5) }, 1, base.Low - 1},
				{func(c *conf.Conf) { c.Open = opens(c, 6, v, 5) }, 1, base.Low - 1},
				{func(c *conf.Conf) { c.Open = opens(c, 6, 5, v) }, 1, 65535},
				{func(c *conf.Conf) { c.Open = opens(c, 17, 5, v) }, 1, 65535},
			} {
				want := api.EARG
				if v >= place.least && v <= place.most {
					want = api.OK
				}
				checkCheck(t, changed(base, place.set), want)
			}
		}
	}
}

// opens returns a list of an Open to a host that is permitted in c.
func opens(c *conf.Conf, proto, port, to int) []conf.Open {
	return []conf.Open{{Proto: proto, Port: port, Addr: addr.Of(addr.Num(c.Lan.Addr) + 3), To: to}}
}

func TestCheckOfProtocols(t *testing.T) {
	for _, v := range append(someNumbers(), 6+256, 17+256, 6+1<<32, 17+1<<32, 6-256, 17-1<<32, 1, 2, 5, 7, 16, 18) {
		want := api.EARG
		if v == 6 || v == 17 {
			want = api.OK
		}
		checkCheck(t, changed(usual(), func(c *conf.Conf) { c.Open = opens(c, v, 80, 80) }), want)
	}
}

// TestCheckOfPortsBelowLow takes the first one of the gateway's own ports from
// the configuration.
func TestCheckOfPortsBelowLow(t *testing.T) {
	for _, low := range []int{1024, 1025, 40000, 59999, 60000} {
		for port, want := range map[int]api.Errno{low - 2: api.OK, low - 1: api.OK, low: api.EARG, low + 1: api.EARG} {
			checkCheck(t, changed(usual(), func(c *conf.Conf) { c.Low, c.Open = low, opens(c, 6, port, 80) }), want)
		}
	}
}

func TestCheckOfFirstBytes(t *testing.T) {
	for v := range 256 {
		dns, mac := api.EARG, api.EARG
		if v >= 1 && v <= 223 {
			dns = api.OK
		}
		if v%2 == 0 {
			mac = api.OK
		}
		checkCheck(t, changed(usual(), func(c *conf.Conf) { c.Dns = api.Addr{byte(v), 0, 255, 1} }), dns)
		checkCheck(t, changed(usual(), func(c *conf.Conf) { c.LanMac[0] = byte(v) }), mac)
		checkCheck(t, changed(usual(), func(c *conf.Conf) { c.WanMac[0] = byte(v) }), mac)
		checkCheck(t, changed(usual(), func(c *conf.Conf) { c.LanMac[5], c.WanMac[1] = byte(v), byte(v) }), api.OK)
		checkCheck(t, changed(usual(), func(c *conf.Conf) {
			c.Fixed = []conf.Fixed{{Mac: api.Mac{byte(v)}, Addr: api.Addr{192, 168, 1, 9}}}
		}), api.OK)
	}
	checkCheck(t, changed(usual(), func(c *conf.Conf) { c.WanMac = c.LanMac }), api.OK)
}

// TestCheckOfEveryAddress puts all addresses of a small network, and those
// about it, into each field.
func TestCheckOfEveryAddress(t *testing.T) {
	base := changed(usual(), func(c *conf.Conf) {
		c.Own, c.Lan = api.Addr{10, 9, 8, 75}, addr.Net{Addr: api.Addr{10, 9, 8, 64}, Bits: 27}
		c.First, c.Last = api.Addr{10, 9, 8, 80}, api.Addr{10, 9, 8, 90}
	})
	checkCheck(t, base, api.OK)
	for last := range 256 {
		for _, a := range []api.Addr{{10, 9, 8, byte(last)}, {10, 9, 9, byte(last)}, {9, 9, 8, byte(last)}} {
			host := a[0] == 10 && a[2] == 8 && a[3] > 64 && a[3] < 95
			for _, place := range []struct {
				set func(c *conf.Conf)
				ok  bool
			}{
				{func(c *conf.Conf) { c.Own = a }, host && (a[3] < 80 || a[3] > 90)},
				{func(c *conf.Conf) { c.First = a }, host && a[3] > 75 && a[3] <= 90},
				{func(c *conf.Conf) { c.Last = a }, host && a[3] >= 80},
				{func(c *conf.Conf) { c.First, c.Last = a, a }, host && a[3] != 75},
				{func(c *conf.Conf) { c.Fixed = []conf.Fixed{{Addr: a}} }, host && a[3] != 75},
				{func(c *conf.Conf) { c.Open = []conf.Open{{Proto: 6, Port: 1, Addr: a, To: 1}} }, host && a[3] != 75},
				{func(c *conf.Conf) { c.Lan.Addr = a }, a == api.Addr{10, 9, 8, 64}},
				{func(c *conf.Conf) { c.Dns = a }, true},
			} {
				want := api.EARG
				if place.ok {
					want = api.OK
				}
				checkCheck(t, changed(base, place.set), want)
			}
		}
	}
}

// TestCheckOfBits gives all numbers of bits to networks, with addresses at their
// ends.
func TestCheckOfBits(t *testing.T) {
	for _, a := range []api.Addr{{10, 77, 200, 69}, {0, 0, 0, 0}, {255, 255, 255, 255}, {128, 0, 0, 1}} {
		for bits := -40; bits <= 72; bits++ {
			n := addr.Net{Addr: a, Bits: bits}
			first, last := addr.Num(n.First()), addr.Num(n.Last())
			for _, own := range []uint32{first, first + 1, first + 2, last - 2, last - 1, last} {
				for _, pool := range []uint32{first, first + 1, first + 2, last - 1, last, first - 1, last + 1} {
					c := changed(usual(), func(c *conf.Conf) {
						c.Own, c.Lan = addr.Of(own), addr.Net{Addr: n.First(), Bits: bits}
						c.First, c.Last = addr.Of(pool), addr.Of(pool)
					})
					checkModel(t, c)
				}
			}
		}
	}
	for _, bits := range someNumbers() {
		checkModel(t, changed(usual(), func(c *conf.Conf) { c.Lan.Bits = bits }))
	}
}

// checkModel checks what Check says of c against the model.
func checkModel(t *testing.T, c conf.Conf) {
	t.Helper()
	want := api.EARG
	if plainCheck(c) {
		want = api.OK
	}
	checkCheck(t, c, want)
}

// TestCheckOfPools tries pools about their greatest length, below and above the
// gateway's address.
func TestCheckOfPools(t *testing.T) {
	base := changed(usual(), func(c *conf.Conf) {
		c.Own, c.Lan = api.Addr{10, 0, 1, 0}, addr.Net{Addr: api.Addr{10, 0, 0, 0}, Bits: 8}
	})
	for from := uint32(0x0a0000b8); from < 0x0a000108; from++ {
		for _, distance := range []int{-300, -1, 0, 1, 2, 62, 63, 64, 65, 127, 128, 255, 256, 320} {
			c := changed(base, func(c *conf.Conf) {
				c.First, c.Last = addr.Of(from), addr.Of(from+uint32(distance))
			})
			checkModel(t, c)
		}
	}
	c := changed(base, func(c *conf.Conf) { c.First, c.Last = api.Addr{10, 0, 2, 0}, api.Addr{10, 0, 2, 63} })
	checkCheck(t, c, api.OK)
	c.Last[3] = 64
	checkCheck(t, c, api.EARG)
	c.First[3] = 1
	checkCheck(t, c, api.OK)
}

// TestCheckOfOtherBits sets each bit of the network's address.
func TestCheckOfOtherBits(t *testing.T) {
	for _, base := range []conf.Conf{usual(), full()} {
		for i := range 32 {
			c := changed(base, func(c *conf.Conf) { c.Lan.Addr[i/8] ^= 1 << (i % 8) })
			checkCheck(t, c, api.EARG)
			checkModel(t, changed(base, func(c *conf.Conf) { c.Own[i/8] ^= 1 << (i % 8) }))
		}
	}
}

// TestCheckOfLists puts elements at all places of long lists that must not stand
// there, and one too many.
func TestCheckOfLists(t *testing.T) {
	base := usual()
	for i := range 33 {
		a := api.Addr{192, 168, 1, byte(33*i%64 + 32)}
		base.Fixed = append(base.Fixed, conf.Fixed{Mac: api.Mac{1, byte(i)}, Addr: a})
		base.Open = append(base.Open, conf.Open{Proto: 6 + 11*(i%2), Port: i/2 + 1, Addr: a, To: 7})
	}
	short := changed(base, func(c *conf.Conf) { c.Fixed, c.Open = c.Fixed[:32], c.Open[:32] })
	checkCheck(t, short, api.OK)
	checkCheck(t, base, api.EARG)
	checkCheck(t, changed(short, func(c *conf.Conf) { c.Fixed = base.Fixed }), api.EARG)
	checkCheck(t, changed(short, func(c *conf.Conf) { c.Open = base.Open }), api.EARG)
	for i := range 32 {
		for _, change := range []func(c *conf.Conf){
			func(c *conf.Conf) { c.Fixed[i].Addr = c.Own },
			func(c *conf.Conf) { c.Fixed[i].Addr[3] = 255 },
			func(c *conf.Conf) { c.Fixed[i].Addr[2] = 2 },
			func(c *conf.Conf) { c.Open[i].Addr = c.Own },
			func(c *conf.Conf) { c.Open[i].Addr[3] = 0 },
			func(c *conf.Conf) { c.Open[i].Proto = 0 },
			func(c *conf.Conf) { c.Open[i].Port = 0 },
			func(c *conf.Conf) { c.Open[i].To = 0 },
		} {
			checkCheck(t, changed(short, change), api.EARG)
		}
		checkCheck(t, changed(short, func(c *conf.Conf) { c.Open[i].Addr = c.Open[(i+5)%32].Addr }), api.OK)
		checkCheck(t, changed(short, func(c *conf.Conf) { c.Open[i].Proto = 23 - c.Open[i].Proto }), api.EARG)
		for j := range 32 {
			want := api.EARG
			if i == j {
				want = api.OK
			}
			checkCheck(t, changed(short, func(c *conf.Conf) { c.Fixed[i].Mac = c.Fixed[j].Mac }), want)
			checkCheck(t, changed(short, func(c *conf.Conf) { c.Fixed[i].Addr = c.Fixed[j].Addr }), want)
			checkCheck(t, changed(short, func(c *conf.Conf) {
				c.Open[i].Proto, c.Open[i].Port = c.Open[j].Proto, c.Open[j].Port
			}), want)
		}
	}
}

// TestCheckOfNoise makes configurations whose values are mostly permitted ones,
// and asks the model.
func TestCheckOfNoise(t *testing.T) {
	seed := uint32(1)
	next := func(n int) int {
		seed = seed*1664525 + 1013904223
		return int(seed>>8) % n
	}
	host := func() api.Addr { return api.Addr{192, 168, 1, byte(next(256))} }
	accepted := 0
	for range 20000 {
		c := usual()
		c.Own, c.First = host(), host()
		c.Last = addr.Of(addr.Num(c.First) + uint32(next(70)))
		for range next(4) {
			c.Fixed = append(c.Fixed, conf.Fixed{Mac: api.Mac{byte(next(9))}, Addr: host()})
			c.Open = append(c.Open, conf.Open{Proto: 6 + 11*next(2), Port: 39990 + next(11), Addr: host(), To: next(5000)})
		}
		if plainCheck(c) {
			accepted++
		}
		checkModel(t, c)
	}
	if accepted < 5000 {
		t.Errorf("only %d configurations are accepted", accepted)
	}
}

// TestCheckOfHugeLists takes no time for lists that are far too long.
func TestCheckOfHugeLists(t *testing.T) {
	checkCheck(t, changed(usual(), func(c *conf.Conf) { c.Fixed = make([]conf.Fixed, 1<<20) }), api.EARG)
	checkCheck(t, changed(usual(), func(c *conf.Conf) { c.Open = make([]conf.Open, 1<<20) }), api.EARG)
}
