package conf

import (
	"slices"

	"gatehouse/addr"
	"gatehouse/api"
)

// maxDigits is the number of digits of the longest number: all of them fit into
// an int of 32 bits.
const maxDigits = 9

// kind is a form that a word may have.
type kind int

const (
	number  kind = iota // int
	address             // api.Addr
	home                // network
	mac                 // api.Mac
)

// network is an address with the number of the bits of its network, which need
// not be a permitted one.
type network struct {
	own  api.Addr
	bits int
}

// reader is a configuration as far as its lines have been read, and the names
// that they had.
type reader struct {
	conf  Conf
	names []string
}

// Parse returns the configuration that text denotes; or 0 or the line that is
// wrong, and the error.
func Parse(text string) (Conf, int, api.Errno) {
	if len(text) > api.MaxText {
		return Conf{}, 0, api.ELIMIT
	}
	lines := linesOf(text)
	if len(lines) > api.MaxLines {
		return Conf{}, 0, api.ELIMIT
	}
	r := reader{conf: Usual()}
	for i, line := range lines {
		if e := r.line(line); e != api.OK {
			return Conf{}, i + 1, e
		}
	}
	r.fillPool()
	if e := Check(r.conf); e != api.OK {
		return Conf{}, 0, e
	}
	return r.conf, 0, api.OK
}

func (r *reader) line(line string) api.Errno {
	if isSkipped(line) {
		return api.OK
	}
	left, right, ok := cut(line, '=')
	if !ok {
		return api.ESYNTAX
	}
	name, ok := onlyWord(left)
	if !ok {
		return api.ESYNTAX
	}
	switch name {
	case fixedName:
		return r.fixed(right)
	case openName:
		return r.open(right)
	}
	return r.single(name, right)
}

// single reads the value of a line whose name tells its only kind.
func (r *reader) single(name, value string) api.Errno {
	k, ok := kindOf(name)
	if !ok {
		return api.ESYNTAX
	}
	word, ok := onlyWord(value)
	if !ok {
		return api.ESYNTAX
	}
	v, ok := read(k, word)
	if !ok {
		return api.ESYNTAX
	}
	if r.has(name) {
		return api.ETAKEN
	}
	r.names = append(r.names, name)
	r.set(name, v)
	return api.OK
}

func (r *reader) has(name string) bool { return slices.Contains(r.names, name) }

// kindOf returns the kind of the value of a line, if there are lines of that name
// with a single value.
func kindOf(name string) (kind, bool) {
	switch name {
	case lanName:
		return home, true
	case lanMacName, wanMacName:
		return mac, true
	case firstName, lastName, dnsName:
		return address, true
	case timeName, udpTimeName, tcpTimeName, icmpTimeName, lowName:
		return number, true
	}
	return 0, false
}

// set stores a value of the kind of its name, so that no assertion fails.
func (r *reader) set(name string, v any) {
	c := &r.conf
	switch name {
	case lanName:
		n := v.(network)
		c.Own = n.own
		c.Lan = addr.Net{Addr: addr.Net{Addr: n.own, Bits: n.bits}.First(), Bits: n.bits}
	case lanMacName:
		c.LanMac = v.(api.Mac)
	case wanMacName:
		c.WanMac = v.(api.Mac)
	case firstName:
		c.First = v.(api.Addr)
	case lastName:
		c.Last = v.(api.Addr)
	case timeName:
		c.Time = v.(int)
	case dnsName:
		c.Dns = v.(api.Addr)
	case udpTimeName:
		c.UdpTime = v.(int)
	case tcpTimeName:
		c.TcpTime = v.(int)
	case icmpTimeName:
		c.IcmpTime = v.(int)
	case lowName:
		c.Low = v.(int)
	}
}

// fillPool sets the ends of the pool without lines of their own. It waits for the
// last line, since any line may be the one of the network.
func (r *reader) fillPool() {
	first, last := usualPool(r.conf.Lan)
	if !r.has(firstName) {
		r.conf.First = first
	}
	if !r.has(lastName) {
		r.conf.Last = last
	}
}

func (r *reader) fixed(value string) api.Errno {
	words := wordsOf(value)
	if len(words) != 2 {
		return api.ESYNTAX
	}
	m, isMac := readAny(words[0]).(api.Mac)
	a, isAddr := readAny(words[1]).(api.Addr)
	if !isMac || !isAddr {
		return api.ESYNTAX
	}
	r.conf.Fixed = append(r.conf.Fixed, Fixed{Mac: m, Addr: a})
	return api.OK
}

func (r *reader) open(value string) api.Errno {
	words := wordsOf(value)
	if len(words) != 4 {
		return api.ESYNTAX
	}
	proto, isProto := protoOf(words[0])
	port, isPort := readAny(words[1]).(int)
	a, isAddr := readAny(words[2]).(api.Addr)
	to, isTo := readAny(words[3]).(int)
	if !isProto || !isPort || !isAddr || !isTo {
		return api.ESYNTAX
	}
	r.conf.Open = append(r.conf.Open, Open{Proto: proto, Port: port, Addr: a, To: to})
	return api.OK
}

func protoOf(word string) (int, bool) {
	switch word {
	case udpWord:
		return api.UDP, true
	case tcpWord:
		return api.TCP, true
	}
	return 0, false
}

// readAny returns the value of a word of a line with values of two kinds, where
// its form has to tell its kind; or nil. No word has the forms of two kinds.
func readAny(word string) any {
	for _, k := range [...]kind{number, address, mac} {
		if v, ok := read(k, word); ok {
			return v
		}
	}
	return nil
}

// read returns the value of kind k that word denotes.
func read(k kind, word string) (any, bool) {
	switch k {
	case number:
		return decimal(word)
	case address:
		a, e := addr.Parse(word)
		return a, e == api.OK
	case mac:
		m, e := addr.ParseMac(word)
		return m, e == api.OK
	}
	return readNetwork(word)
}

func readNetwork(word string) (network, bool) {
	left, right, ok := cut(word, '/')
	if !ok {
		return network{}, false
	}
	own, e := addr.Parse(left)
	if e != api.OK {
		return network{}, false
	}
	bits, ok := decimal(right)
	return network{own: own, bits: bits}, ok
}

// decimal returns the number that s denotes in one to nine digits without
// leading zeros.
func decimal(s string) (int, bool) {
	if len(s) > maxDigits {
		return 0, false
	}
	v := 0
	for i, r := range s {
		leadingZero := i > 0 && v == 0
		if leadingZero || r < '0' || r > '9' {
			return 0, false
		}
		v = 10*v + int(r-'0')
	}
	return v, s != ""
}

// linesOf returns the lines of text. What follows the last line feed is a line
// only if there is something.
func linesOf(text string) []string {
	var lines []string
	from := 0
	for i, r := range text {
		if r == '\n' {
			lines = append(lines, text[from:i])
			from = i + 1
		}
	}
	if from < len(text) {
		lines = append(lines, text[from:])
	}
	return lines
}

// isSkipped reports whether a line is empty or a remark.
func isSkipped(line string) bool {
	for _, r := range line {
		if !isBlank(r) {
			return r == '#'
		}
	}
	return true
}

// cut returns what precedes and what follows the first separator, which is one
// byte long.
func cut(s string, separator rune) (string, string, bool) {
	for i, r := range s {
		if r == separator {
			return s[:i], s[i+1:], true
		}
	}
	return "", "", false
}

// wordsOf returns the parts of s between its blanks.
func wordsOf(s string) []string {
	var words []string
	from := 0
	for i, r := range s {
		if !isBlank(r) {
			continue
		}
		if from < i {
			words = append(words, s[from:i])
		}
		from = i + 1
	}
	if from < len(s) {
		words = append(words, s[from:])
	}
	return words
}

// onlyWord returns the word of s, if there is just one.
func onlyWord(s string) (string, bool) {
	words := wordsOf(s)
	if len(words) != 1 {
		return "", false
	}
	return words[0], true
}

// isBlank reports whether r is a space or a tab: no other rune counts as one.
func isBlank(r rune) bool { return r == ' ' || r == '\t' }
