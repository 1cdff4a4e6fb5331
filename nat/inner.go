package nat

import (
	"slices"

	"gatehouse/api"
	"gatehouse/octet"
	"gatehouse/sum16"
)

// version is the upper half of the first byte of a packet.
const version = 4

// Sizes in bytes: the header is counted in units, and begins with a part that is
// there even without options. Behind it, an inner packet has at least two ports.
const (
	unit   = 4
	fixed  = 20
	behind = 4
)

// Where the fields stand that are read or replaced: those of the number of a query
// and of the ports count from the end of the header.
const (
	protoAt    = 9
	sumAt      = 10
	fromAt     = 12
	toAt       = 16
	fromPortAt = 0
	toPortAt   = 2
	numberAt   = 4
)

// pair is the size of a port, of the number of a query and of a checksum.
const pair = 2

// inner is an inner packet: the beginning of the packet that a fault is about. Its
// header has head bytes.
type inner struct {
	bytes []byte
	head  int
}

// end tells where one of the two ends of a talk stands in an inner packet.
type end struct{ addrAt, portAt int }

func sender() end { return end{fromAt, fromPortAt} }

func receiver() end { return end{toAt, toPortAt} }

// innerOf returns the inner packet b, if it has an IPv4 header. ip4.Get would ask for
// the whole packet, of which a fault has the beginning alone.
func innerOf(b []byte) (inner, bool) {
	if len(b) < fixed || b[0]>>4 != version {
		return inner{}, false
	}
	head := int(b[0]&15) * unit
	if head < fixed || len(b) < head+behind || !sum16.Fits(b[:head]) {
		return inner{}, false
	}
	return inner{b, head}, true
}

// flow returns the flow of an end, whose address must be a.
func (i inner) flow(x end, a api.Addr) (api.Flow, api.Errno) {
	if i.addr(x) != a || !isKnown(i.proto()) {
		return api.Flow{}, api.EDENY
	}
	at := i.portAt(x)
	if len(i.bytes) < at+pair {
		return api.Flow{}, api.EFORM
	}
	port := octet.Read(i.bytes[at : at+pair]).U16()
	return api.Flow{Proto: i.proto(), Addr: a, Port: port}, api.OK
}

// with returns the bytes of i with another address and port of an end, and with the
// checksum of its new header.
func (i inner) with(x end, a api.Addr, port int) []byte {
	b := slices.Clone(i.bytes)
	copy(b[x.addrAt:], a[:])
	putPair(b, i.portAt(x), port)
	// The checksum counts as 0 in itself.
	putPair(b, sumAt, 0)
	putPair(b, sumAt, sum16.Of(b[:i.head]))
	return b
}

func (i inner) proto() int { return int(i.bytes[protoAt]) }

func (i inner) addr(x end) api.Addr {
	var a api.Addr
	copy(a[:], i.bytes[x.addrAt:])
	return a
}

// portAt returns where the port of an end stands. The number of a query belongs to
// both ends.
func (i inner) portAt(x end) int {
	if i.proto() == api.ICMP {
		return i.head + numberAt
	}
	return i.head + x.portAt
}

func isKnown(proto int) bool {
	return proto == api.UDP || proto == api.TCP || proto == api.ICMP
}

// putPair writes v in the two bytes of b that begin at at.
func putPair(b []byte, at, v int) { copy(b[at:], octet.U16(nil, v)) }
