package conf_test

import (
	"slices"
	"strings"
	"sync"
	"testing"

	"gatehouse/addr"
	"gatehouse/api"
	"gatehouse/conf"
)

// usualText is the text of the usual configuration.
const usualText = `lan = 192.168.1.1/24
lanmac = 02:00:00:00:00:01
wanmac = 02:00:00:00:00:02
first = 192.168.1.100
last = 192.168.1.131
time = 3600
dns = 9.9.9.9
udptime = 120
tcptime = 7200
icmptime = 30
low = 40000
`

// fullText has a line of each name, none of them with the usual value.
const fullText = `lan = 172.20.77.9/20
lanmac = 0a:1b:2c:3d:4e:5f
wanmac = fe:dc:ba:98:76:54
first = 172.20.64.200
last = 172.20.65.7
time = 86399
dns = 8.8.4.4
udptime = 11
tcptime = 86398
icmptime = 77
low = 1025
fixed = 00:11:22:33:44:55 172.20.79.254
fixed = ff:ff:ff:ff:ff:ff 172.20.64.1
fixed = 00:00:00:00:00:00 172.20.64.201
open = udp 1024 172.20.64.1 65535
open = tcp 1024 172.20.64.1 1
open = tcp 1 172.20.65.255 443
`

// usual and full return what these texts denote.
func usual() conf.Conf {
	return conf.Conf{
		Own:    api.Addr{192, 168, 1, 1},
		Lan:    addr.Net{Addr: api.Addr{192, 168, 1, 0}, Bits: 24},
		LanMac: api.Mac{2, 0, 0, 0, 0, 1}, WanMac: api.Mac{2, 0, 0, 0, 0, 2},
		First: api.Addr{192, 168, 1, 100}, Last: api.Addr{192, 168, 1, 131},
		Time:    3600,
		Dns:     api.Addr{9, 9, 9, 9},
		UdpTime: 120, TcpTime: 7200, IcmpTime: 30, Low: 40000,
	}
}

func full() conf.Conf {
	return conf.Conf{
		Own:    api.Addr{172, 20, 77, 9},
		Lan:    addr.Net{Addr: api.Addr{172, 20, 64, 0}, Bits: 20},
		LanMac: api.Mac{0x0a, 0x1b, 0x2c, 0x3d, 0x4e, 0x5f}, WanMac: api.Mac{0xfe, 0xdc, 0xba, 0x98, 0x76, 0x54},
		First: api.Addr{172, 20, 64, 200}, Last: api.Addr{172, 20, 65, 7},
		Time:    86399,
		Dns:     api.Addr{8, 8, 4, 4},
		UdpTime: 11, TcpTime: 86398, IcmpTime: 77, Low: 1025,
		Fixed: []conf.Fixed{
			{Mac: api.Mac{0x00, 0x11, 0x22, 0x33, 0x44, 0x55}, Addr: api.Addr{172, 20, 79, 254}},
			{Mac: api.Mac{255, 255, 255, 255, 255, 255}, Addr: api.Addr{172, 20, 64, 1}},
			{Addr: api.Addr{172, 20, 64, 201}},
		},
		Open: []conf.Open{
			{Proto: 17, Port: 1024, Addr: api.Addr{172, 20, 64, 1}, To: 65535},
			{Proto: 6, Port: 1024, Addr: api.Addr{172, 20, 64, 1}, To: 1},
			{Proto: 6, Port: 1, Addr: api.Addr{172, 20, 65, 255}, To: 443},
		},
	}
}

// same reports whether two configurations agree in all their fields: a nil list
// and an empty one are equivalent.
func same(c, d conf.Conf) bool {
	return c.Own == d.Own && c.Lan == d.Lan && c.LanMac == d.LanMac && c.WanMac == d.WanMac &&
		c.First == d.First && c.Last == d.Last && c.Time == d.Time && c.Dns == d.Dns &&
		c.UdpTime == d.UdpTime && c.TcpTime == d.TcpTime && c.IcmpTime == d.IcmpTime && c.Low == d.Low &&
		slices.Equal(c.Fixed, d.Fixed) && slices.Equal(c.Open, d.Open)
}

// copied returns c with lists of its own.
func copied(c conf.Conf) conf.Conf {
	c.Fixed, c.Open = slices.Clone(c.Fixed), slices.Clone(c.Open)
	return c
}

func checkText(t *testing.T, c conf.Conf, want string) {
	t.Helper()
	if s := conf.Text(c); s != want {
		t.Errorf("P10.1: Text(%v): %q instead of %q", c, s, want)
	}
}

func TestUsual(t *testing.T) {
	c := conf.Usual()
	if !same(c, usual()) {
		t.Errorf("P10.1: Usual(): %v", c)
	}
	d, line, e := conf.Parse("")
	if !same(c, d) || line != 0 || e != api.OK || conf.Check(c) != api.OK {
		t.Errorf("P10.1: Usual(): %v, but Parse of no text: %v, %d, %d", c, d, line, e)
	}
}

func TestText(t *testing.T) {
	checkText(t, conf.Usual(), usualText)
	checkText(t, usual(), usualText)
	checkText(t, full(), fullText)
	checkText(t, conf.Conf{}, "")
	if !strings.HasPrefix(conf.Text(conf.Usual()), "lan = 192.168.1.1/24") {
		t.Error("P10.1: the first line of Text")
	}
}

// TestTextOfEachValue changes a value at a time: each stands in its own line.
func TestTextOfEachValue(t *testing.T) {
	for _, c := range []struct {
		change   func(c *conf.Conf)
		old, new string
	}{
		{func(c *conf.Conf) { c.Own[3] = 254 }, "lan = 192.168.1.1/24", "lan = 192.168.1.254/24"},
		{func(c *conf.Conf) { c.Lan.Bits = 23; c.Lan.Addr[2] = 0 }, "lan = 192.168.1.1/24", "lan = 192.168.1.1/23"},
		{func(c *conf.Conf) { c.LanMac[5] = 0xef }, "lanmac = 02:00:00:00:00:01", "lanmac = 02:00:00:00:00:ef"},
		{func(c *conf.Conf) { c.WanMac[0] = 0 }, "wanmac = 02:", "wanmac = 00:"},
		{func(c *conf.Conf) { c.First[3] = 68 }, "first = 192.168.1.100", "first = 192.168.1.68"},
		{func(c *conf.Conf) { c.Last[3] = 163 }, "last = 192.168.1.131", "last = 192.168.1.163"},
		{func(c *conf.Conf) { c.Time = 86400 }, "\ntime = 3600", "\ntime = 86400"},
		{func(c *conf.Conf) { c.Dns[0] = 223 }, "dns = 9.9.9.9", "dns = 223.9.9.9"},
		{func(c *conf.Conf) { c.UdpTime = 10 }, "udptime = 120", "udptime = 10"},
		{func(c *conf.Conf) { c.TcpTime = 10 }, "tcptime = 7200", "tcptime = 10"},
		{func(c *conf.Conf) { c.IcmpTime = 86400 }, "icmptime = 30", "icmptime = 86400"},
		{func(c *conf.Conf) { c.Low = 1024 }, "low = 40000", "low = 1024"},
	} {
		got := usual()
		c.change(&got)
		want := strings.Replace(usualText, c.old, c.new, 1)
		if want == usualText {
			t.Fatalf("no %q", c.old)
		}
		checkText(t, got, want)
		checkParse(t, want, got, 0, api.OK)
	}
}

// TestTextOfLists puts lists of all lengths, in no order of their elements.
func TestTextOfLists(t *testing.T) {
	c, want := usual(), usualText
	for i := range 32 {
		host := byte(7*i%32 + 2)
		c.Fixed = append(c.Fixed, conf.Fixed{Mac: api.Mac{byte(200 - i), 1, 2, 3, 4, 0xab}, Addr: api.Addr{192, 168, 1, host}})
		checkRound(t, c)
	}
	for i := range 32 {
		c.Open = append(c.Open, conf.Open{Proto: 6 + 11*(i%2), Port: 39999 - 7*(i/2), Addr: api.Addr{192, 168, 1, 200}, To: 1 + i})
		checkRound(t, c)
	}
	for _, f := range c.Fixed {
		want += "fixed = " + addr.MacText(f.Mac) + " " + addr.Text(f.Addr) + "\n"
	}
	if s := conf.Text(c); !strings.HasPrefix(s, want+"open = tcp 39999 192.168.1.200 1\nopen = udp 39999 192.168.1.200 2\nopen = tcp 39992 192.168.1.200 3\n") || strings.Count(s, "\n") != 75 {
		t.Errorf("P10.1: Text of long lists: %q", s)
	}
}

// checkRound checks that c comes back from its text.
func checkRound(t *testing.T, c conf.Conf) {
	t.Helper()
	s := conf.Text(c)
	d, line, e := conf.Parse(s)
	if s == "" || !same(c, d) || line != 0 || e != api.OK {
		t.Errorf("P10.1: %v comes back from %q as %v, %d, %d", c, s, d, line, e)
	}
}

func TestArgumentsStayAsTheyAre(t *testing.T) {
	for _, change := range []func(c *conf.Conf){func(c *conf.Conf) {}, func(c *conf.Conf) { c.Time = 0 }, func(c *conf.Conf) { c.Fixed[2] = c.Fixed[0] }, func(c *conf.Conf) { c.Open[2] = c.Open[0] }} {
		c := full()
		change(&c)
		c.Fixed = append(make([]conf.Fixed, 0, 9), c.Fixed...)
		c.Open = append(make([]conf.Open, 0, 9), c.Open...)
		before := conf.Conf{Fixed: slices.Clone(c.Fixed[:9]), Open: slices.Clone(c.Open[:9])}
		conf.Check(c)
		conf.Text(c)
		if !same(before, conf.Conf{Fixed: c.Fixed[:9], Open: c.Open[:9]}) {
			t.Errorf("R4: Check or Text changes the lists of %v", before)
		}
	}
}

// TestResultsAreNewMemory writes on all memory of results.
func TestResultsAreNewMemory(t *testing.T) {
	for range 3 {
		for _, c := range []struct {
			s    string
			want conf.Conf
		}{{"", usual()}, {usualText, usual()}, {fullText, full()}} {
			got, _, _ := conf.Parse(c.s)
			again, _, _ := conf.Parse(c.s)
			ruin(got)
			if !same(again, c.want) {
				t.Errorf("R4: results of Parse(%q) share memory: %v", c.s, again)
			}
		}
		u, v := conf.Usual(), conf.Usual()
		ruin(u)
		if !same(v, usual()) {
			t.Errorf("R4: results of Usual share memory: %v", v)
		}
	}
}

func ruin(c conf.Conf) {
	for i := range c.Fixed[:cap(c.Fixed)] {
		c.Fixed[:cap(c.Fixed)][i] = conf.Fixed{Mac: api.Mac{0x5a}}
	}
	for i := range c.Open[:cap(c.Open)] {
		c.Open[:cap(c.Open)][i] = conf.Open{Proto: 0x5a}
	}
}

// TestCallsDoNotMeet makes calls one after another and at the same time: none
// hangs on another.
func TestCallsDoNotMeet(t *testing.T) {
	var group sync.WaitGroup
	for range 8 {
		group.Go(func() {
			for range 50 {
				checkParse(t, fullText, full(), 0, api.OK)
				checkParse(t, "time = 60\nfixed = 00:00:00:00:00:00 1.1.1.1\nx", conf.Conf{}, 3, api.ESYNTAX)
				checkParse(t, "", usual(), 0, api.OK)
				checkText(t, usual(), usualText)
				checkText(t, full(), fullText)
				if conf.Check(full()) != api.OK || conf.Check(conf.Conf{}) != api.EARG {
					t.Error("R5: Check hangs on other calls")
				}
			}
		})
	}
	group.Wait()
}
