package conf_test

import (
	"regexp"
	"strconv"
	"strings"

	"gatehouse/addr"
	"gatehouse/api"
	"gatehouse/conf"
)

// The forms of the chapter as expressions.
const (
	numberForm = `(0|[1-9][0-9]{0,8})`
	octetForm  = `(?:0|[1-9][0-9]?|1[0-9][0-9]|2[0-4][0-9]|25[0-5])`
	addrForm   = `(` + octetForm + `(?:\.` + octetForm + `){3})`
	macForm    = `([0-9a-fA-F]{2}(?::[0-9a-fA-F]{2}){5})`
	gap        = `[ \t]+`
)

var skippedForm = regexp.MustCompile(`\A[ \t]*(?:#|\z)`)

var lineForms = []struct {
	name string
	form *regexp.Regexp
}{
	{"lan", lineForm("lan", addrForm+"/"+numberForm)},
	{"lanmac", lineForm("lanmac", macForm)},
	{"wanmac", lineForm("wanmac", macForm)},
	{"first", lineForm("first", addrForm)},
	{"last", lineForm("last", addrForm)},
	{"time", lineForm("time", numberForm)},
	{"dns", lineForm("dns", addrForm)},
	{"udptime", lineForm("udptime", numberForm)},
	{"tcptime", lineForm("tcptime", numberForm)},
	{"icmptime", lineForm("icmptime", numberForm)},
	{"low", lineForm("low", numberForm)},
	{"fixed", lineForm("fixed", macForm+gap+addrForm)},
	{"open", lineForm("open", `(udp|tcp)`+gap+numberForm+gap+addrForm+gap+numberForm)},
}

func lineForm(name, value string) *regexp.Regexp {
	return regexp.MustCompile(`\A[ \t]*` + name + `[ \t]*=[ \t]*` + value + `[ \t]*\z`)
}

// plainParse is the word of the chapter about Parse.
func plainParse(text string) (conf.Conf, int, api.Errno) {
	lines := strings.Split(text, "\n")
	if lines[len(lines)-1] == "" {
		lines = lines[:len(lines)-1]
	}
	if len(text) > 16384 || len(lines) > 400 {
		return conf.Conf{}, 0, api.ELIMIT
	}
	c, had := usual(), map[string]bool{}
	for i, line := range lines {
		if skippedForm.MatchString(line) {
			continue
		}
		name, parts := plainLine(line)
		if name == "" {
			return conf.Conf{}, i + 1, api.ESYNTAX
		}
		if had[name] && name != "fixed" && name != "open" {
			return conf.Conf{}, i + 1, api.ETAKEN
		}
		had[name] = true
		plainSet(&c, name, parts)
	}
	if had["lan"] {
		plainPool(&c, had["first"], had["last"])
	}
	if !plainCheck(c) {
		return conf.Conf{}, 0, api.EARG
	}
	return c, 0, api.OK
}

// plainLine returns the name of a line and the words of its value, or no name.
func plainLine(line string) (string, []string) {
	for _, l := range lineForms {
		if parts := l.form.FindStringSubmatch(line); parts != nil {
			return l.name, parts[1:]
		}
	}
	return "", nil
}

func plainSet(c *conf.Conf, name string, parts []string) {
	num := func(i int) int { v, _ := strconv.Atoi(parts[i]); return v }
	at := func(i int) api.Addr { a, _ := addr.Parse(parts[i]); return a }
	mac := func(i int) api.Mac { m, _ := addr.ParseMac(parts[i]); return m }
	numbers := map[string]*int{"time": &c.Time, "udptime": &c.UdpTime, "tcptime": &c.TcpTime, "icmptime": &c.IcmpTime, "low": &c.Low}
	addrs := map[string]*api.Addr{"lan": &c.Own, "first": &c.First, "last": &c.Last, "dns": &c.Dns}
	macs := map[string]*api.Mac{"lanmac": &c.LanMac, "wanmac": &c.WanMac}
	if p := numbers[name]; p != nil {
		*p = num(0)
	}
	if p := addrs[name]; p != nil {
		*p = at(0)
	}
	if p := macs[name]; p != nil {
		*p = mac(0)
	}
	switch name {
	case "lan":
		c.Lan = addr.Net{Addr: c.Own, Bits: num(1)}
		if first, _, ok := plainNet(c.Own, c.Lan.Bits); ok {
			c.Lan.Addr = addr.Of(uint32(first))
		}
	case "fixed":
		c.Fixed = append(c.Fixed, conf.Fixed{Mac: mac(0), Addr: at(1)})
	case "open":
		c.Open = append(c.Open, conf.Open{Proto: map[string]int{"udp": 17, "tcp": 6}[parts[0]], Port: num(1), Addr: at(2), To: num(3)})
	}
}

// plainNum returns the number of an address, so that sums and differences are
// not cut to 32 bits.
func plainNum(a api.Addr) int64 {
	return int64(a[0])<<24 + int64(a[1])<<16 + int64(a[2])<<8 + int64(a[3])
}

// plainNet returns the least and the greatest address of the network of a, if
// the number of bits is permitted.
func plainNet(a api.Addr, bits int) (int64, int64, bool) {
	if bits < 8 || bits > 30 {
		return 0, 0, false
	}
	size := int64(1) << (32 - bits)
	first := plainNum(a) / size * size
	return first, first + size - 1, true
}

func plainPool(c *conf.Conf, hasFirst, hasLast bool) {
	first, last, ok := plainNet(c.Own, c.Lan.Bits)
	if !ok {
		return
	}
	from, to := first+2, min(first+33, last-1)
	if c.Lan.Bits <= 24 {
		from, to = first+100, first+131
	}
	if !hasFirst {
		c.First = addr.Of(uint32(from))
	}
	if !hasLast {
		c.Last = addr.Of(uint32(to))
	}
}

// plainCheck is the word of the chapter about Check.
func plainCheck(c conf.Conf) bool {
	first, last, ok := plainNet(c.Own, c.Lan.Bits)
	if !ok || plainNum(c.Lan.Addr) != first {
		return false
	}
	inside := func(a api.Addr) bool { return plainNum(a) > first && plainNum(a) < last }
	other := func(a api.Addr) bool { return inside(a) && a != c.Own }
	pool := plainNum(c.Last) - plainNum(c.First)
	own := plainNum(c.Own)
	ok = inside(c.Own) && inside(c.First) && inside(c.Last) && pool >= 0 && pool < 64
	ok = ok && !(plainNum(c.First) <= own && own <= plainNum(c.Last))
	ok = ok && c.LanMac[0]%2 == 0 && c.WanMac[0]%2 == 0
	ok = ok && c.Time >= 60 && c.Time <= 86400 && c.Dns[0] >= 1 && c.Dns[0] <= 223
	for _, v := range []int{c.UdpTime, c.TcpTime, c.IcmpTime} {
		ok = ok && v >= 10 && v <= 86400
	}
	ok = ok && c.Low >= 1024 && c.Low <= 60000 && len(c.Fixed) <= 32 && len(c.Open) <= 32
	macs, addrs, ports := map[api.Mac]bool{}, map[api.Addr]bool{}, map[[2]int]bool{}
	for _, f := range c.Fixed {
		ok = ok && other(f.Addr)
		macs[f.Mac], addrs[f.Addr] = true, true
	}
	for _, o := range c.Open {
		ok = ok && other(o.Addr) && (o.Proto == 6 || o.Proto == 17) && o.Port >= 1 && o.Port < c.Low && o.To >= 1 && o.To <= 65535
		ports[[2]int{o.Proto, o.Port}] = true
	}
	return ok && len(macs) == len(c.Fixed) && len(addrs) == len(c.Fixed) && len(ports) == len(c.Open)
}
