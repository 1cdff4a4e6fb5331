package conf

import (
	"gatehouse/addr"
	"gatehouse/api"
)

// The permitted values.
const (
	leastBits, mostBits = 8, 30
	leastTime, mostTime = 60, 86400
	leastLife, mostLife = 10, 86400
	leastDns, mostDns   = 1, 223
	leastLow, mostLow   = 1024, 60000
	leastPort, mostPort = 1, 65535
	maxFixed, maxOpen   = 32, 32
)

// Check reports whether all values of c are permitted.
func Check(c Conf) api.Errno {
	if lanFits(c) && poolFits(c) && restFits(c) && fixedFits(c) && openFits(c) {
		return api.OK
	}
	return api.EARG
}

func lanFits(c Conf) bool {
	if !within(c.Lan.Bits, leastBits, mostBits) {
		return false
	}
	n := addr.Net{Addr: c.Own, Bits: c.Lan.Bits}
	return c.Lan.Addr == n.First() && isHost(n, c.Own)
}

func poolFits(c Conf) bool {
	first, last, own := addr.Num(c.First), addr.Num(c.Last), addr.Num(c.Own)
	return isHost(c.Lan, c.First) && isHost(c.Lan, c.Last) &&
		first <= last && last-first < api.MaxLeases && (own < first || own > last)
}

// restFits reports whether the values that depend on no others are permitted.
func restFits(c Conf) bool {
	return !isGroup(c.LanMac) && !isGroup(c.WanMac) &&
		within(c.Time, leastTime, mostTime) &&
		within(int(c.Dns[0]), leastDns, mostDns) &&
		within(c.UdpTime, leastLife, mostLife) &&
		within(c.TcpTime, leastLife, mostLife) &&
		within(c.IcmpTime, leastLife, mostLife) &&
		within(c.Low, leastLow, mostLow)
}

func fixedFits(c Conf) bool {
	if len(c.Fixed) > maxFixed {
		return false
	}
	for i, f := range c.Fixed {
		if !isOther(c, f.Addr) {
			return false
		}
		for _, g := range c.Fixed[:i] {
			if f.Mac == g.Mac || f.Addr == g.Addr {
				return false
			}
		}
	}
	return true
}

func openFits(c Conf) bool {
	if len(c.Open) > maxOpen {
		return false
	}
	for i, o := range c.Open {
		if o.Proto != api.UDP && o.Proto != api.TCP || !isOther(c, o.Addr) {
			return false
		}
		if !within(o.Port, leastPort, c.Low-1) || !within(o.To, leastPort, mostPort) {
			return false
		}
		for _, p := range c.Open[:i] {
			if o.Proto == p.Proto && o.Port == p.Port {
				return false
			}
		}
	}
	return true
}

// isHost reports whether a is an address of n that a host may have.
func isHost(n addr.Net, a api.Addr) bool { return n.Has(a) && a != n.First() && a != n.Last() }

// isOther reports whether a host other than the gateway may have a.
func isOther(c Conf, a api.Addr) bool { return isHost(c.Lan, a) && a != c.Own }

func isGroup(m api.Mac) bool { return m[0]&1 == 1 }

func within(v, least, most int) bool { return least <= v && v <= most }
