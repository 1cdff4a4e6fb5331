package conf_test

import (
	"math"
	"strconv"
	"strings"
	"testing"

	"gatehouse/addr"
	"gatehouse/api"
	"gatehouse/conf"
)

// values are a value of each form that a line may have, and what is none.
var values = []string{
	"100", "192.168.1.100", "10.0.0.1/24", "0a:00:00:00:00:02",
	"0a:00:00:00:00:02 192.168.1.7", "192.168.1.7 0a:00:00:00:00:02", "udp 80 192.168.1.7 80", "tcp 80 192.168.1.7 80",
	"", "x", "100 100", "192.168.1.100 192.168.1.100", "10.0.0.1/24 10.0.0.1/24", "0a:00:00:00:00:02 0a:00:00:00:00:02",
	"0a:00:00:00:00:02 192.168.1.7 7", "0a:00:00:00:00:02 7", "7 192.168.1.7", "0a:00:00:00:00:02 192.168.1.0/24",
	"udp 80 192.168.1.7", "udp 80 192.168.1.7 80 80", "80 192.168.1.7 80", "80 80 192.168.1.7 80", "udp tcp 192.168.1.7 80",
	"udp 192.168.1.7 80 80", "udp 80 80 192.168.1.7", "udp 192.168.1.7 192.168.1.7 80", "udp 80 192.168.1.7 192.168.1.7", "udp 80 80 80",
	"udp 80 0a:00:00:00:00:02 80", "udp 0a:00:00:00:00:02 192.168.1.7 80", "udp 80 192.168.1.7 0a:00:00:00:00:02", "udp 80 192.168.1.7/24 80",
	"UDP 80 192.168.1.7 80", "icmp 80 192.168.1.7 80", "17 80 192.168.1.7 80", "ud 80 192.168.1.7 80", "udpp 80 192.168.1.7 80",
	"=", "= 100", "100 =", "#", "# 100", "100 # x", "#100", "100#", "é", "\xff", "１００", "100\x00", "100\r", "100,", "\"100\"",
}

// singleNames are the names that only one line may have, with a permitted value.
var singleNames = []struct{ name, value string }{
	{"lan", "192.168.1.1/24"}, {"lanmac", "02:00:00:00:00:03"}, {"wanmac", "02:00:00:00:00:04"},
	{"first", "192.168.1.101"}, {"last", "192.168.1.130"}, {"time", "61"}, {"dns", "1.1.1.1"},
	{"udptime", "12"}, {"tcptime", "13"}, {"icmptime", "14"}, {"low", "1026"},
}

// allNames are the names of the table.
func allNames() []string {
	list := []string{"fixed", "open"}
	for _, n := range singleNames {
		list = append(list, n.name)
	}
	return list
}

func checkParse(t *testing.T, s string, want conf.Conf, wantLine int, wantE api.Errno) {
	t.Helper()
	c, line, e := conf.Parse(s)
	if !same(c, want) || line != wantLine || e != wantE {
		t.Errorf("P10.1: Parse(%.200q): %v, %d, %d instead of %v, %d, %d", s, c, line, e, want, wantLine, wantE)
	}
}

// checkFault checks that Parse refuses a text.
func checkFault(t *testing.T, s string, line int, e api.Errno) {
	t.Helper()
	checkParse(t, s, conf.Conf{}, line, e)
}

// checkChange checks that Parse of s returns the usual configuration with a
// change.
func checkChange(t *testing.T, s string, change func(c *conf.Conf)) {
	t.Helper()
	checkParse(t, s, changed(usual(), change), 0, api.OK)
}

// checkParseModel checks what Parse says of s against the model.
func checkParseModel(t *testing.T, s string) {
	t.Helper()
	want, line, e := plainParse(s)
	checkParse(t, s, want, line, e)
}

func TestParse(t *testing.T) {
	for _, s := range []string{"", "\n", usualText, strings.TrimSuffix(usualText, "\n"), "lan = 192.168.1.1/24", "low=40000"} {
		checkParse(t, s, usual(), 0, api.OK)
	}
	checkParse(t, fullText, full(), 0, api.OK)
	checkParse(t, strings.TrimSuffix(fullText, "\n"), full(), 0, api.OK)
	checkChange(t, "time = 60", func(c *conf.Conf) { c.Time = 60 })
	checkFault(t, "time = 59", 0, api.EARG)
	checkFault(t, "\nwhat = 5", 2, api.ESYNTAX)
}

func TestParseOfEachName(t *testing.T) {
	checkChange(t, "lan = 192.168.1.2/24", func(c *conf.Conf) { c.Own[3] = 2 })
	checkChange(t, "lanmac = aA:Cd:EF:01:29:fF", func(c *conf.Conf) { c.LanMac = api.Mac{0xaa, 0xcd, 0xef, 1, 0x29, 0xff} })
	checkChange(t, "wanmac = 00:00:00:00:00:00", func(c *conf.Conf) { c.WanMac = api.Mac{} })
	checkChange(t, "first = 192.168.1.131", func(c *conf.Conf) { c.First[3] = 131 })
	checkChange(t, "last = 192.168.1.100", func(c *conf.Conf) { c.Last[3] = 100 })
	checkChange(t, "time = 86400", func(c *conf.Conf) { c.Time = 86400 })
	checkChange(t, "dns = 223.0.0.0", func(c *conf.Conf) { c.Dns = api.Addr{223, 0, 0, 0} })
	checkChange(t, "udptime = 10", func(c *conf.Conf) { c.UdpTime = 10 })
	checkChange(t, "tcptime = 10", func(c *conf.Conf) { c.TcpTime = 10 })
	checkChange(t, "icmptime = 10", func(c *conf.Conf) { c.IcmpTime = 10 })
	checkChange(t, "low = 60000", func(c *conf.Conf) { c.Low = 60000 })
	checkChange(t, "fixed = fF:00:00:00:00:0a 192.168.1.254", func(c *conf.Conf) {
		c.Fixed = []conf.Fixed{{Mac: api.Mac{255, 0, 0, 0, 0, 10}, Addr: api.Addr{192, 168, 1, 254}}}
	})
	checkChange(t, "open = tcp 1 192.168.1.254 65535", func(c *conf.Conf) {
		c.Open = []conf.Open{{Proto: 6, Port: 1, Addr: api.Addr{192, 168, 1, 254}, To: 65535}}
	})
	checkChange(t, "open = udp 39999 192.168.1.2 1", func(c *conf.Conf) {
		c.Open = []conf.Open{{Proto: 17, Port: 39999, Addr: api.Addr{192, 168, 1, 2}, To: 1}}
	})
}

// TestParseKeepsTheOrderOfLists puts lines of both lists between each other.
func TestParseKeepsTheOrderOfLists(t *testing.T) {
	checkChange(t, "open = tcp 9 192.168.1.9 9\nfixed = 00:00:00:00:00:09 192.168.1.9\nopen = udp 9 192.168.1.9 9\nopen = tcp 3 192.168.1.9 9\nfixed = 00:00:00:00:00:03 192.168.1.3", func(c *conf.Conf) {
		c.Fixed = []conf.Fixed{{Mac: api.Mac{5: 9}, Addr: api.Addr{192, 168, 1, 9}}, {Mac: api.Mac{5: 3}, Addr: api.Addr{192, 168, 1, 3}}}
		a := api.Addr{192, 168, 1, 9}
		c.Open = []conf.Open{{Proto: 6, Port: 9, Addr: a, To: 9}, {Proto: 17, Port: 9, Addr: a, To: 9}, {Proto: 6, Port: 3, Addr: a, To: 9}}
	})
}

func TestParseOfLongTexts(t *testing.T) {
	remark := func(n int) string { return "#" + strings.Repeat("x", n-1) }
	for _, s := range []string{
		strings.Repeat("\n", 400), strings.Repeat("\n", 399) + "#", strings.Repeat("\n", 399) + " \n", strings.Repeat("#\n", 400),
		remark(16384), remark(16383) + "\n", strings.Repeat(" ", 16384), strings.Repeat("\t", 16384),
		"\n" + remark(16383), remark(15985) + strings.Repeat("\n", 399),
		usualText + strings.Repeat("\n", 389), strings.Repeat("\n", 389) + usualText, strings.Repeat("#\n", 389) + strings.TrimSuffix(usualText, "\n"),
		usualText + remark(16384-len(usualText)), strings.Repeat(" ", 16384-9) + "low=40000",
	} {
		checkParse(t, s, usual(), 0, api.OK)
	}
	for _, s := range []string{
		strings.Repeat("\n", 401), strings.Repeat("\n", 400) + "#", strings.Repeat("\n", 400) + " ", strings.Repeat("\n", 400) + "x", strings.Repeat("x\n", 401), strings.Repeat("x\n", 400) + "x",
		strings.Repeat("\n", 400) + "time = 60", "x\n" + strings.Repeat("\n", 400), strings.Repeat("time = 60\n", 401),
		remark(16385), remark(16384) + "\n", "x\n" + remark(16384), strings.Repeat(" ", 16385), strings.Repeat("x", 16385), strings.Repeat("x", 1<<20), strings.Repeat("\n", 1<<20), strings.Repeat("\xff", 1<<20), strings.Repeat("é", 8192) + "\n",
		"time = 59\n" + remark(16384),
	} {
		checkFault(t, s, 0, api.ELIMIT)
	}
	checkFault(t, strings.Repeat("x\n", 400), 1, api.ESYNTAX)
	checkFault(t, strings.Repeat("\n", 399)+"x", 400, api.ESYNTAX)
	checkFault(t, strings.Repeat("x", 16384), 1, api.ESYNTAX)
	checkFault(t, strings.Repeat("=", 16384), 1, api.ESYNTAX)
	checkFault(t, "time = "+strings.Repeat("1", 16377), 1, api.ESYNTAX)
	checkFault(t, "time = "+strings.Repeat("0", 16377), 1, api.ESYNTAX)
	checkFault(t, "open = "+strings.Repeat("1 ", 8188), 1, api.ESYNTAX)
	checkFault(t, strings.Repeat("é", 8192), 1, api.ESYNTAX)
}

func TestParseSkipsLines(t *testing.T) {
	for _, s := range []string{
		"#", "##", "#time = 59", "# time = 59", "#=", " #", "\t#", " \t \t# = \n", " ", "\t", " \t\t  ", "\n\n\n", " \n\t\n", "#\xff", "#\x00", "#é", "\t# lan\n# lan", "#\r", "# \n#\n \n\n\t#",
	} {
		checkParse(t, s, usual(), 0, api.OK)
		checkChange(t, s+"\ntime = 60", func(c *conf.Conf) { c.Time = 60 })
		checkFault(t, s+"\n x", strings.Count(s, "\n")+2, api.ESYNTAX)
	}
	for _, s := range []string{"\r", "\v", "\f", "\x00", "\u00a0", "\u2003", "\ufeff", "\x85", "\xff", "x", "=", " = ", "x #", "=#", "\r#", "\v#", "\ufeff#", "\u00a0#", "＃", ";", "//", "time # = 60", "time #", "time = # 60", "time# = 60"} {
		checkFault(t, s, 1, api.ESYNTAX)
		checkFault(t, "\n# x\n"+s+"\n", 3, api.ESYNTAX)
	}
}

// TestParseIgnoresBlanks puts blanks wherever the chapter lets them stand, and
// into names and words.
func TestParseIgnoresBlanks(t *testing.T) {
	for _, s := range []string{"", " ", "\t", "  ", " \t", "\t \t ", strings.Repeat(" ", 3000)} {
		checkChange(t, s+"time"+s+"="+s+"60"+s, func(c *conf.Conf) { c.Time = 60 })
		checkChange(t, "\n"+s+"dns"+s+"="+s+"1.2.3.4"+s+"\n", func(c *conf.Conf) { c.Dns = api.Addr{1, 2, 3, 4} })
		if s == "" {
			continue
		}
		checkChange(t, "open="+strings.Join([]string{"udp", "9", "192.168.1.9", "8"}, s), func(c *conf.Conf) {
			c.Open = []conf.Open{{Proto: 17, Port: 9, Addr: api.Addr{192, 168, 1, 9}, To: 8}}
		})
		checkChange(t, "fixed="+s+"00:00:00:00:00:00"+s+"192.168.1.9"+s, func(c *conf.Conf) {
			c.Fixed = []conf.Fixed{{Addr: api.Addr{192, 168, 1, 9}}}
		})
		for _, wrong := range []string{"ti" + s + "me = 60", "time time = 60", "time = 6" + s + "0", "dns = 1.2." + s + "3.4", "lan = 10.0.0.1" + s + "/24", "lan = 10.0.0.1/" + s + "24", "lanmac = 02:" + s + "00:00:00:00:00", "time" + s + "60", "open = ud" + s + "p 9 192.168.1.9 8"} {
			checkFault(t, wrong, 1, api.ESYNTAX)
		}
	}
	for _, s := range []string{"\r", "\v", "\f", "\x00", "\u00a0", "\u2003", "\ufeff", "\x85", ","} {
		for _, wrong := range []string{s + "time=60", "time" + s + "=60", "time=" + s + "60", "time=60" + s, "fixed=00:00:00:00:00:00" + s + "192.168.1.9", "open=udp 9" + s + "192.168.1.9 8"} {
			checkFault(t, wrong, 1, api.ESYNTAX)
		}
	}
	checkFault(t, "time = 60\r\n", 1, api.ESYNTAX)
}

func TestParseOfNames(t *testing.T) {
	for _, n := range singleNames {
		checkParse(t, n.name+"="+n.value, parsed(t, n.name+" = "+n.value), 0, api.OK)
		for _, name := range []string{strings.ToUpper(n.name), strings.ToUpper(n.name[:1]) + n.name[1:], n.name + "x", "x" + n.name, n.name[1:], n.name[:len(n.name)-1], n.name + n.name, n.name + "\x00", "", "#" + n.name + "\nx", "\"" + n.name + "\"", n.name + ":", n.name + "é", "\xff" + n.name} {
			line := 1 + strings.Count(name, "\n")
			checkFault(t, name+" = "+n.value, line, api.ESYNTAX)
		}
		checkFault(t, n.name, 1, api.ESYNTAX)
		checkFault(t, n.name+" "+n.value, 1, api.ESYNTAX)
		checkFault(t, n.name+" : "+n.value, 1, api.ESYNTAX)
		checkFault(t, n.name+" = ", 1, api.ESYNTAX)
		checkFault(t, n.name+" == "+n.value, 1, api.ESYNTAX)
		checkFault(t, "= "+n.name+" = "+n.value, 1, api.ESYNTAX)
	}
	for _, name := range []string{"own", "Fixed", "fixe", "fixedd", "opens", "OPEN", "udp", "tcp", "mac", "net", "bits", "what", "lan mac", "icmp", "to", "0", "=", "server", "until", "router"} {
		for _, v := range values {
			checkFault(t, name+" = "+v, 1, api.ESYNTAX)
		}
	}
}

// parsed returns the configuration of a text that has to be accepted.
func parsed(t *testing.T, s string) conf.Conf {
	t.Helper()
	c, line, e := conf.Parse(s)
	if line != 0 || e != api.OK {
		t.Errorf("P10.1: Parse(%q): %d, %d", s, line, e)
	}
	return c
}

// TestParseOfKinds gives the values of all kinds to all names.
func TestParseOfKinds(t *testing.T) {
	for _, name := range allNames() {
		for _, v := range values {
			checkParseModel(t, name+" = "+v)
			checkParseModel(t, "\n#\n"+name+"="+v+"\n")
		}
	}
	checkFault(t, "time = 192.168.1.1", 1, api.ESYNTAX)
	checkFault(t, "time = 02:00:00:00:00:01", 1, api.ESYNTAX)
	checkFault(t, "dns = 9", 1, api.ESYNTAX)
	checkFault(t, "dns = 9.9.9.9/32", 1, api.ESYNTAX)
	checkFault(t, "lan = 192.168.1.1", 1, api.ESYNTAX)
	checkFault(t, "lanmac = 1.2.3.4", 1, api.ESYNTAX)
	checkFault(t, "fixed = 192.168.1.7 0a:00:00:00:00:01", 1, api.ESYNTAX)
	checkFault(t, "open = udp 192.168.1.7 80 80", 1, api.ESYNTAX)
}

// TestParseOfNumbers puts numbers of all forms at all places of numbers: what
// has the form but is not permitted is a fault of no line.
func TestParseOfNumbers(t *testing.T) {
	places := []string{"time = ", "udptime = ", "tcptime = ", "icmptime = ", "low = ", "lan = 192.168.1.1/", "open = tcp ", "open = udp 80 192.168.1.7 "}
	end := func(place string) string {
		if place == "open = tcp " {
			return " 192.168.1.7 80"
		}
		return ""
	}
	for _, place := range places {
		for _, v := range []string{"", "00", "01", "024", "060", "0000000080", "000000080", "1000000000", "9999999999", "2147483648", "4294967320", "4294967376", "18446744073709551640", "18446744073709551696", "-1", "-0", "+80", "+24", "-24", "24.0", "24.", ".24", "2_4", "0x18", "0x50", "1e2", "24x", "x24", "２４", "٣", "²", "\U00010032\U00010034", "24\x00", "24\xff", "é", "''", "24/24", "8 0"} {
			s := place + v + end(place)
			checkFault(t, s, 1, api.ESYNTAX)
			checkParseModel(t, s)
		}
		for _, v := range []string{"0", "999999999", "100000000", "123456789", "86401"} {
			s := place + v + end(place)
			checkFault(t, s, 0, api.EARG)
			checkParseModel(t, s)
		}
		for _, v := range someNumbers() {
			checkParseModel(t, place+strconv.Itoa(v)+end(place))
			checkParseModel(t, place+"0"+strconv.Itoa(v)+end(place))
		}
		for v := range 66000 / 7 {
			checkParseModel(t, place+strconv.Itoa(7*v)+end(place))
		}
	}
}

// TestParseFindsTheFirstWrongLine puts a wrong line at all places, before and
// behind others.
func TestParseFindsTheFirstWrongLine(t *testing.T) {
	lines := strings.Split(strings.TrimSuffix(fullText, "\n"), "\n")
	for i := range lines {
		for _, wrong := range []string{"x", "time", "what = 5", "time = x", "lan = 10.0.0.1", "fixed = 0", "open = icmp 1 1.1.1.1 1"} {
			list := append(append(append([]string{}, lines[:i]...), wrong), lines[i:]...)
			checkFault(t, strings.Join(list, "\n"), i+1, api.ESYNTAX)
			checkFault(t, strings.Join(list, "\n")+"\n"+wrong, i+1, api.ESYNTAX)
			checkFault(t, "\n# remark\n \t\n"+strings.Join(list, "\n")+"\nlan = 0.0.0.0/0\n", i+4, api.ESYNTAX)
		}
		if i < len(singleNames) {
			list := append(append(append([]string{}, lines...), lines[i]), "x")
			checkFault(t, strings.Join(list, "\n"), len(lines)+1, api.ETAKEN)
		}
	}
	checkFault(t, "x\ntime = 60\ntime = 60", 1, api.ESYNTAX)
	checkFault(t, "time = 60\ntime = 60\nx", 2, api.ETAKEN)
	checkFault(t, "time = 60\nx\ntime = 60", 2, api.ESYNTAX)
	checkFault(t, "time = 59\nx", 2, api.ESYNTAX)
	checkFault(t, "time = 59\ntime = 60", 2, api.ETAKEN)
	checkFault(t, "time = 59\n\n", 0, api.EARG)
}

// TestParseOfNamesTwice repeats the name of a line.
func TestParseOfNamesTwice(t *testing.T) {
	for _, n := range singleNames {
		line := n.name + " = " + n.value
		checkFault(t, line+"\n"+line, 2, api.ETAKEN)
		checkFault(t, line+"\n\n# x\n\t"+n.name+"="+n.value+"\n", 4, api.ETAKEN)
		checkFault(t, line+"\n#"+line+"\n"+line+"\n"+line+"\n", 3, api.ETAKEN)
		checkFault(t, line+"\n"+n.name+" = x", 2, api.ESYNTAX)
		checkFault(t, line+"\n"+n.name+" = ", 2, api.ESYNTAX)
		checkFault(t, line+"\n"+n.name, 2, api.ESYNTAX)
		checkFault(t, n.name+" = x\n"+line, 1, api.ESYNTAX)
		checkParse(t, line+"\n# "+line, parsed(t, line), 0, api.OK)
		for _, m := range singleNames {
			other := m.name + " = " + m.value
			if m.name != n.name {
				checkParseModel(t, line+"\n"+other)
				checkFault(t, line+"\n"+other+"\n"+line, 3, api.ETAKEN)
			}
		}
	}
	const fixed, open = "fixed = 00:00:00:00:00:01 192.168.1.7", "open = tcp 1 192.168.1.7 1"
	checkFault(t, fixed+"\n"+fixed, 0, api.EARG)
	checkFault(t, open+"\n"+open, 0, api.EARG)
	checkFault(t, fixed+"\nfixed = 00:00:00:00:00:01 192.168.1.8", 0, api.EARG)
	checkFault(t, fixed+"\nfixed = 00:00:00:00:00:02 192.168.1.7", 0, api.EARG)
	checkFault(t, open+"\nopen = tcp 1 192.168.1.8 2", 0, api.EARG)
	checkParseModel(t, open+"\nopen = udp 1 192.168.1.7 1\nopen = tcp 2 192.168.1.7 1")
}

// TestParseOfManyLines has as many lines fixed and open as there may be, and one
// more.
func TestParseOfManyLines(t *testing.T) {
	fixed, open := "", ""
	for i := range 40 {
		fixed += "fixed = 00:00:00:00:00:" + strconv.Itoa(10+i) + " 192.168.1." + strconv.Itoa(50+i) + "\n"
		open += "open = udp " + strconv.Itoa(i+1) + " 192.168.1.9 9\n"
		for _, s := range []string{fixed, open, fixed + open} {
			c, line, e := conf.Parse(s)
			if n := i + 1; n > 32 {
				checkFault(t, s, 0, api.EARG)
			} else if line != 0 || e != api.OK || s != open && len(c.Fixed) != n || s != fixed && len(c.Open) != n {
				t.Errorf("P10.1: Parse of %d lines: %v, %d, %d", n, c, line, e)
			}
		}
	}
	checkFault(t, fixed+open+"x", 81, api.ESYNTAX)
}

// TestPoolOfEachNetwork lets the pool follow from the network, of which either
// end may have a line of its own, before or behind it.
func TestPoolOfEachNetwork(t *testing.T) {
	for _, a := range []api.Addr{{10, 20, 30, 40}, {0, 0, 0, 1}, {255, 255, 255, 254}, {255, 255, 255, 253}, {192, 168, 1, 1}, {128, 0, 0, 5}, {10, 0, 0, 65}, {10, 0, 0, 99}, {10, 0, 0, 133}, {10, 0, 0, 127}} {
		for bits := range 40 {
			n := addr.Net{Addr: a, Bits: bits}
			least, most := addr.Num(n.First()), addr.Num(n.Last())
			for _, own := range []uint32{addr.Num(a), least, least + 1, least + 99, least + 100, least + 132, most - 1} {
				lan := "lan = " + addr.Text(addr.Of(own)) + "/" + strconv.Itoa(bits)
				first, last := "first = "+addr.Text(addr.Of(least+3)), "last = "+addr.Text(addr.Of(least+9))
				for _, lines := range [][]string{{lan}, {lan, first}, {first, lan}, {lan, last}, {last, lan}, {first, lan, last}, {lan, last, first}} {
					checkParseModel(t, strings.Join(lines, "\n"))
				}
			}
		}
	}
}

func TestPoolExamples(t *testing.T) {
	for s, want := range map[string]string{
		"lan = 10.0.0.1/8":                                 "10.0.0.100 10.0.0.131",
		"lan = 10.1.2.3/16":                                "10.1.0.100 10.1.0.131",
		"lan = 10.0.0.99/24":                               "10.0.0.100 10.0.0.131",
		"lan = 10.0.0.132/24":                              "10.0.0.100 10.0.0.131",
		"lan = 10.0.0.1/25":                                "10.0.0.2 10.0.0.33",
		"lan = 10.0.0.129/25":                              "10.0.0.130 10.0.0.161",
		"lan = 10.0.0.62/26":                               "10.0.0.2 10.0.0.33",
		"lan = 10.0.0.1/27":                                "10.0.0.2 10.0.0.30",
		"lan = 10.0.0.33/28":                               "10.0.0.34 10.0.0.46",
		"lan = 10.0.0.1/29":                                "10.0.0.2 10.0.0.6",
		"lan = 10.0.0.1/30":                                "10.0.0.2 10.0.0.2",
		"lan = 255.255.255.193/26":                         "255.255.255.194 255.255.255.225",
		"lan = 255.255.255.225/27":                         "255.255.255.226 255.255.255.254",
		"lan = 255.255.255.253/30":                         "255.255.255.254 255.255.255.254",
		"lan = 0.0.0.1/30":                                 "0.0.0.2 0.0.0.2",
		"first = 192.168.1.99":                             "192.168.1.99 192.168.1.131",
		"last = 192.168.1.163":                             "192.168.1.100 192.168.1.163",
		"first = 10.0.0.90\nlan = 10.0.0.1/24":             "10.0.0.90 10.0.0.131",
		"lan = 10.0.0.1/24\nlast = 10.0.0.101":             "10.0.0.100 10.0.0.101",
		"last = 10.0.0.9\nlan=10.0.0.1/24\nfirst=10.0.0.9": "10.0.0.9 10.0.0.9",
	} {
		c := parsed(t, s)
		if got := addr.Text(c.First) + " " + addr.Text(c.Last); got != want {
			t.Errorf("P10.1: the pool of %q: %s instead of %s", s, got, want)
		}
	}
	for _, s := range []string{
		"lan = 10.0.0.100/24", "lan = 10.0.0.110/24", "lan = 10.0.0.131/24", "lan = 10.0.0.2/30", "lan = 10.0.0.33/25", "lan = 10.0.0.0/24", "lan = 10.0.0.255/24",
		"lan = 10.0.0.1/7", "lan = 10.0.0.1/31", "lan = 10.0.0.1/32", "lan = 10.0.0.1/33", "lan = 10.0.0.1/0", "lan = 10.0.0.1/264", "lan = 255.255.255.255/32",
		"first = 192.168.1.132", "first = 192.168.1.67", "last = 192.168.1.99", "last = 192.168.1.164", "first = 10.0.0.100", "lan = 10.0.0.1/24\nfirst = 192.168.1.100",
	} {
		checkFault(t, s, 0, api.EARG)
	}
}

// pieces are put into texts: all bytes, and runes that look like others or whose
// lowest bits are theirs.
func pieces() []string {
	list := []string{"", "１", "．", "＝", "＃", "：", "／", "\u0130", "\u012e", "\u013d", "\u0123", "\u0120", "\u0109", "\u010a", "\u2028", "\u00a0", "\U0001003d", "\ufeff", "\ufffd", "\xe2\x82", "\xc0\xbd", "  ", "\t\t", " = ", "\n\n", "\nx", "99"}
	for c := range 256 {
		list = append(list, string([]byte{byte(c)}))
	}
	return list
}

// TestParseAgainstAModel changes texts in one place each.
func TestParseAgainstAModel(t *testing.T) {
	bases := []string{"fixed = 0a:00:00:00:00:02 192.168.1.7", "open = udp 80 192.168.1.7 8080", " open\t= tcp\t9  192.168.1.7 9 "}
	for _, n := range singleNames {
		bases = append(bases, n.name+" = "+n.value)
	}
	for _, base := range bases {
		for i := 0; i <= len(base); i++ {
			for _, p := range pieces() {
				checkParseModel(t, base[:i]+p+base[i:])
				checkParseModel(t, base[:i]+p+base[min(i+1, len(base)):])
			}
			for j := i; j <= len(base); j++ {
				checkParseModel(t, base[:i]+base[j:])
				checkParseModel(t, base[:j]+base[i:])
			}
		}
	}
	for i := 0; i <= len(fullText); i++ {
		for _, p := range []string{"", " ", "\n", "=", "#", "0", "1", "x"} {
			checkParseModel(t, fullText[:i]+p+fullText[i:])
			checkParseModel(t, fullText[:i]+p+fullText[min(i+1, len(fullText)):])
		}
		checkParseModel(t, fullText[:i])
		checkParseModel(t, fullText[i:])
	}
}

// TestParseOfNoise makes texts of parts of lines in any order.
func TestParseOfNoise(t *testing.T) {
	parts := append([]string{"\n", "\n", "\n", " ", "\t", "=", "=", "= ", "#", "/", "0", "7", "x", "\xff", "\x00", "é"}, allNames()...)
	parts = append(parts, values...)
	for _, n := range singleNames {
		parts = append(parts, n.name+" = "+n.value+"\n", n.name+"\t="+n.value)
	}
	seed := uint32(7)
	next := func(n int) int {
		seed = seed*1664525 + 1013904223
		return int(seed>>8) % n
	}
	for range 60000 {
		s := ""
		for range next(9) {
			s += parts[next(len(parts))]
		}
		checkParseModel(t, s)
	}
	for range 3000 {
		b := make([]byte, next(60))
		for i := range b {
			b[i] = byte(next(256))
		}
		checkParseModel(t, string(b))
	}
}

// TestParseOfAddresses puts addresses of all forms at their places.
func TestParseOfAddresses(t *testing.T) {
	for _, a := range []string{"", "1.2.3", "1.2.3.4.5", "01.2.3.4", "256.1.1.1", "192.168.1.256", "1.2.3.", ".1.2.3", "1.2.3.-4", "::1", "localhost", "1.2.3.4:5", "0.0.0.0", "255.255.255.255", "192.168.1.0", "192.168.1.255", "192.168.1.1", "192.168.0.100", "192.168.1.99", "192.168.1.100", "192.168.1.131", "192.168.1.132", "224.0.0.1", "223.255.255.255", "0.255.255.255", "1.0.0.0"} {
		for _, s := range []string{"first = " + a, "last = " + a, "dns = " + a, "lan = " + a + "/24", "lan = " + a + "/8", "fixed = 00:00:00:00:00:00 " + a, "open = tcp 1 " + a + " 1"} {
			checkParseModel(t, s)
		}
	}
	for _, m := range []string{"", "0:0:0:0:0:0", "00:00:00:00:00", "00:00:00:00:00:00:00", "00-00-00-00-00-00", "0g:00:00:00:00:00", "01:00:00:00:00:00", "ff:ff:ff:ff:ff:ff", "fe:ff:ff:ff:ff:ff", "FE:ff:Ff:fF:ff:ff", "000000000000"} {
		for _, s := range []string{"lanmac = " + m, "wanmac = " + m, "fixed = " + m + " 192.168.1.7"} {
			checkParseModel(t, s)
		}
	}
	checkFault(t, "lanmac = 01:00:00:00:00:00", 0, api.EARG)
	checkFault(t, "wanmac = ff:ff:ff:ff:ff:ff", 0, api.EARG)
	checkFault(t, "dns = 0.0.0.0", 0, api.EARG)
	checkFault(t, "dns = 224.0.0.0", 0, api.EARG)
	checkFault(t, "fixed = 00:00:00:00:00:00 192.168.1."+strconv.Itoa(math.MaxUint8), 0, api.EARG)
}
