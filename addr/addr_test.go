package addr_test

import (
	"math"
	"regexp"
	"strconv"
	"strings"
	"testing"

	"gatehouse/addr"
	"gatehouse/api"
)

// The forms of the chapter as expressions.
const (
	numberForm = `(?:0|[1-9][0-9]?|1[0-9][0-9]|2[0-4][0-9]|25[0-5])`
	fourForm   = numberForm + `(?:\.` + numberForm + `){3}`
)

var (
	addrForm = regexp.MustCompile(`\A` + fourForm + `\z`)
	netForm  = regexp.MustCompile(`\A` + fourForm + `/(?:[0-9]|[12][0-9]|3[0-2])\z`)
	macForm  = regexp.MustCompile(`\A[0-9a-fA-F]{2}(?::[0-9a-fA-F]{2}){5}\z`)
)

// oddRunes are digits, letters and separators of other scripts, runes whose
// lowest bits are those of plain ones (some as long as two digits), and bytes
// that are no rune.
var oddRunes = []string{
	"１", "٣", "²", "Ａ", "ａ", "．", "。", "：", "／", "−",
	"\u0130", "\u0131", "\u0139", "\u0141", "\u0161", "\u012e", "\u012f", "\u013a",
	"\U00010031", "\U00010061", "\U0001002e", "\U0001002f", "\U0001003a",
	"é", "\ufeff", "\u200b", "\ufffd", "\xff", "\xe2\x82", "\xc0\xb1", "\xc0\xae",
}

// bitCounts are numbers of bits, those at the edges and far beyond them too.
var bitCounts = []int{
	0, 1, 2, 3, 4, 5, 6, 7, 8, 9, 10, 11, 12, 13, 14, 15, 16,
	17, 18, 19, 20, 21, 22, 23, 24, 25, 26, 27, 28, 29, 30, 31, 32,
	33, 34, 40, 63, 64, 65, 96, 128, 255, 256, 257, 1 << 32, 1<<32 + 8, math.MaxInt32, math.MaxInt - 1, math.MaxInt,
	-1, -2, -8, -24, -31, -32, -33, -64, -256, -(1 << 32), math.MinInt32, math.MinInt + 1, math.MinInt,
}

// someAddrs are addresses that differ at each end and in the middle.
var someAddrs = []api.Addr{
	{}, {0, 0, 0, 1}, {1, 2, 3, 4}, {9, 9, 9, 9}, {10, 1, 2, 3}, {127, 255, 255, 255}, {128, 0, 0, 0},
	{170, 170, 170, 170}, {85, 85, 85, 85}, {192, 168, 1, 1}, {255, 255, 255, 254}, {255, 255, 255, 255},
}

// edits returns texts that differ from s in one place or a few.
func edits(s string) []string {
	pieces := append([]string{}, oddRunes...)
	for c := range 256 {
		pieces = append(pieces, string([]byte{byte(c)}))
	}
	texts := []string{s, s + s}
	for i := 0; i <= len(s); i++ {
		texts = append(texts, s[:i], s[i:])
		for _, p := range pieces {
			for j := i; j <= min(i+2, len(s)); j++ {
				texts = append(texts, s[:i]+p+s[j:])
			}
		}
		for j := i; j <= len(s); j++ {
			texts = append(texts, s[:i]+s[j:], s[:j]+s[i:])
		}
		if i+2 <= len(s) {
			texts = append(texts, s[:i]+s[i+1:i+2]+s[i:i+1]+s[i+2:])
		}
	}
	return texts
}

// longTexts are longer by far than any that denotes something.
func longTexts() []string {
	const many = 1 << 20
	texts := []string{"1.2.3." + strings.Repeat("0", many), strings.Repeat("0", many) + ".1.2.3", "10.0.0.0/" + strings.Repeat("0", many) + "8"}
	for _, piece := range []string{".", ":", "/", "0", "1", "9", "a", "\xff", "１", "1.", "00:", "1.2.3.4/", " "} {
		texts = append(texts, strings.Repeat(piece, many))
	}
	return texts
}

// bit tells bit number i of a, the most significant one of the first byte being
// number 0.
func bit(a api.Addr, i int) int { return int(a[i/8]) >> (7 - i%8) & 1 }

// withBit returns a with bit number i set to v.
func withBit(a api.Addr, i, v int) api.Addr {
	a[i/8] = a[i/8]&^(1<<(7-i%8)) | byte(v<<(7-i%8))
	return a
}

// tail returns a with all bits from number i on set to v.
func tail(a api.Addr, i, v int) api.Addr {
	for ; i < 32; i++ {
		a = withBit(a, i, v)
	}
	return a
}

// counted returns what a number of bits counts as.
func counted(bits int) int {
	if bits < 0 {
		return 0
	}
	if bits > 32 {
		return 32
	}
	return bits
}

func plainParse(s string) (api.Addr, api.Errno) {
	var a api.Addr
	if !addrForm.MatchString(s) {
		return a, api.ESYNTAX
	}
	for i, part := range strings.Split(s, ".") {
		v, _ := strconv.Atoi(part)
		a[i] = byte(v)
	}
	return a, api.OK
}

func plainParseNet(s string) (addr.Net, api.Errno) {
	if !netForm.MatchString(s) {
		return addr.Net{}, api.ESYNTAX
	}
	front, back, _ := strings.Cut(s, "/")
	a, _ := plainParse(front)
	bits, _ := strconv.Atoi(back)
	if tail(a, bits, 0) != a {
		return addr.Net{}, api.EARG
	}
	return addr.Net{Addr: a, Bits: bits}, api.OK
}

func plainParseMac(s string) (api.Mac, api.Errno) {
	var m api.Mac
	if !macForm.MatchString(s) {
		return m, api.ESYNTAX
	}
	for i, part := range strings.Split(s, ":") {
		v, _ := strconv.ParseUint(part, 16, 8)
		m[i] = byte(v)
	}
	return m, api.OK
}

func checkParse(t *testing.T, s string, want api.Addr, wantE api.Errno) {
	t.Helper()
	if a, e := addr.Parse(s); a != want || e != wantE {
		t.Errorf("P3.1: Parse(%.80q): %v, %d instead of %v, %d", s, a, e, want, wantE)
	}
}

func checkParseNet(t *testing.T, s string, want addr.Net, wantE api.Errno) {
	t.Helper()
	if n, e := addr.ParseNet(s); n != want || e != wantE {
		t.Errorf("P3.1: ParseNet(%.80q): %v, %d instead of %v, %d", s, n, e, want, wantE)
	}
}

func checkParseMac(t *testing.T, s string, want api.Mac, wantE api.Errno) {
	t.Helper()
	if m, e := addr.ParseMac(s); m != want || e != wantE {
		t.Errorf("P3.1: ParseMac(%.80q): %v, %d instead of %v, %d", s, m, e, want, wantE)
	}
}

// addrTexts are addresses in their only form.
var addrTexts = []struct {
	s string
	a api.Addr
}{
	{"0.0.0.0", api.Addr{}},
	{"10.0.0.1", api.Addr{10, 0, 0, 1}},
	{"1.2.3.4", api.Addr{1, 2, 3, 4}},
	{"1.20.199.250", api.Addr{1, 20, 199, 250}},
	{"9.99.100.109", api.Addr{9, 99, 100, 109}},
	{"192.168.1.1", api.Addr{192, 168, 1, 1}},
	{"255.255.255.255", api.Addr{255, 255, 255, 255}},
}

func TestParseAndText(t *testing.T) {
	for _, c := range addrTexts {
		checkParse(t, c.s, c.a, api.OK)
		if s := addr.Text(c.a); s != c.s {
			t.Errorf("P3.1: Text(%v): %q instead of %q", c.a, s, c.s)
		}
	}
}

// TestEveryNumberAtEachPlace puts all numbers at all places of an address whose
// other numbers differ, and all of them that must not stand there.
func TestEveryNumberAtEachPlace(t *testing.T) {
	for at := range 4 {
		for v := range 1200 {
			a, parts := api.Addr{11, 22, 33, 44}, []string{"11", "22", "33", "44"}
			digits := strconv.Itoa(v)
			parts[at] = digits
			s := strings.Join(parts, ".")
			if v > 255 {
				checkParse(t, s, api.Addr{}, api.ESYNTAX)
				continue
			}
			a[at] = byte(v)
			checkParse(t, s, a, api.OK)
			if got := addr.Text(a); got != s {
				t.Errorf("P3.1: Text(%v): %q instead of %q", a, got, s)
			}
			for _, wrong := range []string{"0" + digits, "00" + digits, "+" + digits, "-" + digits, " " + digits, digits + " "} {
				parts[at] = wrong
				checkParse(t, strings.Join(parts, "."), api.Addr{}, api.ESYNTAX)
			}
		}
	}
}

// greatNumbers leave a number in range if they are cut to 8, 16, 32 or 64 bits.
var greatNumbers = []string{
	"256", "257", "264", "511", "512", "1000", "65536", "65537", "65544",
	"2147483648", "4294967296", "4294967297", "4294967304",
	"9223372036854775807", "9223372036854775808", "18446744073709551615", "18446744073709551616", "18446744073709551617", "18446744073709551624",
	"340282366920938463463374607431768211456", "340282366920938463463374607431768211457",
	"10000000000000000000000000000000000000000", "99999999999999999999999999999999999999999",
}

func TestParseOfGreatNumbers(t *testing.T) {
	for _, v := range greatNumbers {
		for _, s := range []string{v + ".2.3.4", "1." + v + ".3.4", "1.2." + v + ".4", "1.2.3." + v} {
			checkParse(t, s, api.Addr{}, api.ESYNTAX)
		}
		checkParseNet(t, "0.0.0.0/"+v, addr.Net{}, api.ESYNTAX)
		checkParseNet(t, v+".0.0.0/8", addr.Net{}, api.ESYNTAX)
	}
}

func TestParseRefusesOtherForms(t *testing.T) {
	for _, s := range []string{
		"", ".", "...", "....", "1", "1.2", "1.2.3", "1.2.3.4.5", "1.2.3.4.5.6.7.8",
		"1.2.3.", ".1.2.3", "1..2.3", "1.2..3", ".1.2.3.4", "1.2.3.4.", "1.2.3..4", "1..2.3.4",
		"01.2.3.4", "1.02.3.4", "1.2.003.4", "1.2.3.04", "1.2.3.00", "00.0.0.0",
		"256.1.1.1", "1.256.1.1", "1.1.256.1", "1.1.1.256", "1.1.1.999",
		" 1.2.3.4", "1.2.3.4 ", "1. 2.3.4", "1.2.3.4\n", "\t1.2.3.4", "1.2.3.4\x00", "\x001.2.3.4",
		"-1.2.3.4", "1.2.3.-4", "1.2.3.-0", "+1.2.3.4", "1.2.3.+4",
		"1,2,3,4", "1,2.3.4", "1:2:3:4", "1.2.3/4", "1.2.3.4/8", "1.2.3.4/32",
		"a.b.c.d", "1.2.3.x", "1.2.3.a", "1.2.3.4x", "0x1.2.3.4", "1.2.3.0xa", "1e1.2.3.4", "1_0.2.3.4", "1.2.3.4e0",
		"１.2.3.4", "1.2.3.\xff", "1．2.3.4", "1.2.3.4\ufeff", "\ufeff1.2.3.4",
		"10.0.0.1 10.0.0.2", "::1", "localhost", "16909060",
	} {
		checkParse(t, s, api.Addr{}, api.ESYNTAX)
	}
}

func TestParseAgainstAModel(t *testing.T) {
	for _, base := range []string{"0.0.0.0", "10.20.30.40", "1.2.3.4", "255.199.249.100", "9.25.26.254"} {
		for _, s := range edits(base) {
			want, wantE := plainParse(s)
			checkParse(t, s, want, wantE)
		}
	}
}

// netTexts are networks in their only form, with their least and greatest
// addresses.
var netTexts = []struct {
	s           string
	n           addr.Net
	first, last string
}{
	{"0.0.0.0/0", addr.Net{}, "0.0.0.0", "255.255.255.255"},
	{"10.0.0.0/8", addr.Net{Addr: api.Addr{10, 0, 0, 0}, Bits: 8}, "10.0.0.0", "10.255.255.255"},
	{"128.0.0.0/1", addr.Net{Addr: api.Addr{128, 0, 0, 0}, Bits: 1}, "128.0.0.0", "255.255.255.255"},
	{"0.0.0.0/1", addr.Net{Bits: 1}, "0.0.0.0", "127.255.255.255"},
	{"172.16.0.0/12", addr.Net{Addr: api.Addr{172, 16, 0, 0}, Bits: 12}, "172.16.0.0", "172.31.255.255"},
	{"192.168.1.0/24", addr.Net{Addr: api.Addr{192, 168, 1, 0}, Bits: 24}, "192.168.1.0", "192.168.1.255"},
	{"192.168.1.128/25", addr.Net{Addr: api.Addr{192, 168, 1, 128}, Bits: 25}, "192.168.1.128", "192.168.1.255"},
	{"255.255.255.254/31", addr.Net{Addr: api.Addr{255, 255, 255, 254}, Bits: 31}, "255.255.255.254", "255.255.255.255"},
	{"1.2.3.4/32", addr.Net{Addr: api.Addr{1, 2, 3, 4}, Bits: 32}, "1.2.3.4", "1.2.3.4"},
	{"0.0.0.0/32", addr.Net{Bits: 32}, "0.0.0.0", "0.0.0.0"},
	{"255.255.255.255/32", addr.Net{Addr: api.Addr{255, 255, 255, 255}, Bits: 32}, "255.255.255.255", "255.255.255.255"},
}

func TestParseNetAndNetText(t *testing.T) {
	for _, c := range netTexts {
		checkParseNet(t, c.s, c.n, api.OK)
		if s := addr.NetText(c.n); s != c.s {
			t.Errorf("P3.1: NetText(%v): %q instead of %q", c.n, s, c.s)
		}
		if first, last := addr.Text(c.n.First()), addr.Text(c.n.Last()); first != c.first || last != c.last {
			t.Errorf("P3.2: First and Last of %s: %s, %s instead of %s, %s", c.s, first, last, c.first, c.last)
		}
	}
}

func TestParseNetRefusesOtherForms(t *testing.T) {
	for _, s := range []string{
		"", "/", "8", "/8", "10.0.0.0", "10.0.0.0/", "/10.0.0.0", "8/10.0.0.0", "10.0.0/8", "10/8", "10.0.0.0.0/8", "010.0.0.0/8", "10.0.0.256/8",
		"10.0.0.0/00", "10.0.0.0/01", "10.0.0.0/08", "10.0.0.0/032", "10.0.0.0/33", "10.0.0.0/40", "10.0.0.0/64", "10.0.0.0/99", "10.0.0.0/100", "10.0.0.0/128", "10.0.0.0/264",
		"10.0.0.0/-1", "10.0.0.0/-0", "10.0.0.0/-8", "10.0.0.0/+8", "10.0.0.0/x", "10.0.0.0/8x", "10.0.0.0/0x8", "10.0.0.0/1e1", "10.0.0.0/8.0", "10.0.0.0/255.0.0.0",
		"10.0.0.0/8/", "10.0.0.0/8/8", "10.0.0.0//8", "/10.0.0.0/8", "10.0.0.0/8/10.0.0.0/8",
		" 10.0.0.0/8", "10.0.0.0/8 ", "10.0.0.0 /8", "10.0.0.0/ 8", "10.0.0.0/8\n", "10.0.0.0\\8", "10.0.0.0:8", "10.0.0.0 8",
		"10.0.0.0/８", "10.0.0.0／8", "10.0.0.0/\xff", "\xff/8", "10.0.0.0/8\x00",
	} {
		checkParseNet(t, s, addr.Net{}, api.ESYNTAX)
	}
}

// TestParseNetTellsTheFormFirst has texts to which both errors apply.
func TestParseNetTellsTheFormFirst(t *testing.T) {
	for _, s := range []string{"10.0.0.1/33", "10.0.0.1/08", "10.0.0.1/-1", "10.0.0.1/", "10.0.0.1/8/8", "10.0.0.1/8 ", "255.255.255.255/x", "255.255.255.255/00", "1.1.1.1/0x", "10.0.0.01/8"} {
		checkParseNet(t, s, addr.Net{}, api.ESYNTAX)
	}
}

func TestParseNetRefusesBitsBehindTheFirst(t *testing.T) {
	for _, s := range []string{"10.0.0.1/8", "255.255.255.255/31", "1.0.0.0/0", "0.0.0.1/0", "128.0.0.0/0", "255.255.255.255/0", "192.168.1.128/24", "192.168.1.64/25", "0.0.0.1/31"} {
		checkParseNet(t, s, addr.Net{}, api.EARG)
	}
}

// TestParseNetOfEachBit has, for all numbers of bits, each bit alone, all bits
// but each one, and all bits that may be set.
func TestParseNetOfEachBit(t *testing.T) {
	ones := api.Addr{255, 255, 255, 255}
	for bits := 0; bits <= 32; bits++ {
		all := tail(ones, bits, 0)
		behind := "/" + strconv.Itoa(bits)
		checkParseNet(t, addr.Text(all)+behind, addr.Net{Addr: all, Bits: bits}, api.OK)
		for i := range 32 {
			for _, a := range []api.Addr{withBit(api.Addr{}, i, 1), withBit(all, i, 1), withBit(all, i, 0), withBit(ones, i, 0)} {
				want, wantE := plainParseNet(addr.Text(a) + behind)
				checkParseNet(t, addr.Text(a)+behind, want, wantE)
			}
		}
	}
}

func TestParseNetAgainstAModel(t *testing.T) {
	for _, base := range []string{"0.0.0.0/0", "10.0.0.0/8", "10.20.0.0/30", "192.168.1.128/25", "255.255.255.255/32"} {
		for _, s := range edits(base) {
			want, wantE := plainParseNet(s)
			checkParseNet(t, s, want, wantE)
		}
	}
}

// TestNetTextOfAnyNet has networks that ParseNet does not return: NetText tells
// their Addr and Bits as they are.
func TestNetTextOfAnyNet(t *testing.T) {
	for _, c := range []struct {
		n    addr.Net
		want string
	}{
		{addr.Net{Addr: api.Addr{10, 1, 2, 3}, Bits: 16}, "10.1.2.3/16"},
		{addr.Net{Addr: api.Addr{255, 255, 255, 255}, Bits: 0}, "255.255.255.255/0"},
		{addr.Net{Addr: api.Addr{1, 2, 3, 4}, Bits: 33}, "1.2.3.4/33"},
		{addr.Net{Addr: api.Addr{1, 2, 3, 4}, Bits: -1}, "1.2.3.4/-1"},
		{addr.Net{Bits: math.MaxInt}, "0.0.0.0/9223372036854775807"},
		{addr.Net{Bits: math.MinInt}, "0.0.0.0/-9223372036854775808"},
	} {
		if got := addr.NetText(c.n); got != c.want {
			t.Errorf("P3.1: NetText(%v): %q instead of %q", c.n, got, c.want)
		}
	}
}

func TestParseMacAndMacText(t *testing.T) {
	for _, c := range []struct {
		s, lower string
		m        api.Mac
	}{
		{"00:00:00:00:00:00", "00:00:00:00:00:00", api.Mac{}},
		{"aB:cD:Ef:01:29:fF", "ab:cd:ef:01:29:ff", api.Mac{0xab, 0xcd, 0xef, 0x01, 0x29, 0xff}},
		{"02:00:00:00:00:01", "02:00:00:00:00:01", api.Mac{2, 0, 0, 0, 0, 1}},
		{"01:23:45:67:89:ab", "01:23:45:67:89:ab", api.Mac{0x01, 0x23, 0x45, 0x67, 0x89, 0xab}},
		{"FF:FF:FF:FF:FF:FF", "ff:ff:ff:ff:ff:ff", api.Mac{255, 255, 255, 255, 255, 255}},
		{"10:20:30:40:50:60", "10:20:30:40:50:60", api.Mac{0x10, 0x20, 0x30, 0x40, 0x50, 0x60}},
	} {
		checkParseMac(t, c.s, c.m, api.OK)
		if s := addr.MacText(c.m); s != c.lower {
			t.Errorf("P3.1: MacText(%v): %q instead of %q", c.m, s, c.lower)
		}
	}
}

// TestEveryPairAtEachPlace writes all bytes in upper and lower case and mixed.
func TestEveryPairAtEachPlace(t *testing.T) {
	const lower, upper = "0123456789abcdef", "0123456789ABCDEF"
	for at := range 6 {
		for v := range 256 {
			m := api.Mac{0x11, 0x22, 0x33, 0x44, 0x55, 0x66}
			m[at] = byte(v)
			parts := []string{"11", "22", "33", "44", "55", "66"}
			for _, high := range []string{upper, lower} {
				for _, low := range []string{upper, lower} {
					parts[at] = high[v/16:v/16+1] + low[v%16:v%16+1]
					checkParseMac(t, strings.Join(parts, ":"), m, api.OK)
				}
			}
			// The last one that was written is all lower case.
			if got, want := addr.MacText(m), strings.Join(parts, ":"); got != want {
				t.Errorf("P3.1: MacText(%v): %q instead of %q", m, got, want)
			}
		}
	}
}

func TestParseMacRefusesOtherForms(t *testing.T) {
	for _, s := range []string{
		"", ":", ":::::", "0", "00", "00:00:00:00:00", "00:00:00:00:00:00:00", "00:00:00:00:00:00:00:00",
		"00:00:00:00:00:", ":00:00:00:00:00", "00:00:00::00:00", "00:00:00:00:00:00:", ":00:00:00:00:00:00", "00::00:00:00:00:00",
		"0:00:00:00:00:00", "00:0:00:00:00:00", "00:00:00:00:00:0", "000:00:00:00:00:00", "00:00:00:00:00:000", "0:000:00:00:00:00", "00:00:00:00:00:0000",
		"00-00:00:00:00:00", "00-00-00-00-00-00", "00.00.00.00.00.00", "0000.0000.0000", "000000000000", "00 00 00 00 00 00",
		"0g:00:00:00:00:00", "g0:00:00:00:00:00", "00:00:00:00:00:0G", "0x:00:00:00:00:00", "00:00:00:00:00:/0", "00:00:00:00:00:@0", "00:00:00:00:00:`0", "00:00:00:00:00:0;",
		" 00:00:00:00:00:00", "00:00:00:00:00:00 ", "00:00:00:00:00: 0", "00:00:00:00:00:+0", "00:00:00:00:00:-0", "00:00:00:00:00:00\n",
		"00:00:00:00:00:é", "é:00:00:00:00:00", "00:00:00:00:00:0\xff", "00:00:00:00:00:\xff\xff", "00:00:00:00:00:１", "００:00:00:00:00:00", "00：00:00:00:00:00",
		"\u0131:00:00:00:00:00", "00:00:00:00:00:\u0161", "00:00:\u0141:00:00:00",
	} {
		checkParseMac(t, s, api.Mac{}, api.ESYNTAX)
	}
}

func TestParseMacAgainstAModel(t *testing.T) {
	for _, base := range []string{"00:00:00:00:00:00", "aB:cD:Ef:01:29:fF", "90:9a:fA:Ff:0F:a9"} {
		for _, s := range edits(base) {
			want, wantE := plainParseMac(s)
			checkParseMac(t, s, want, wantE)
		}
	}
}

func TestLongTexts(t *testing.T) {
	for _, s := range longTexts() {
		checkParse(t, s, api.Addr{}, api.ESYNTAX)
		checkParseNet(t, s, addr.Net{}, api.ESYNTAX)
		checkParseMac(t, s, api.Mac{}, api.ESYNTAX)
	}
}

func TestNumAndOf(t *testing.T) {
	for _, c := range []struct {
		a api.Addr
		n uint32
	}{
		{api.Addr{}, 0},
		{api.Addr{1, 2, 3, 4}, 0x01020304},
		{api.Addr{0, 0, 0, 255}, 255},
		{api.Addr{0, 0, 1, 0}, 256},
		{api.Addr{0, 1, 0, 0}, 65536},
		{api.Addr{1, 0, 0, 0}, 1 << 24},
		{api.Addr{127, 255, 255, 255}, math.MaxInt32},
		{api.Addr{128, 0, 0, 0}, 1 << 31},
		{api.Addr{255, 255, 255, 255}, math.MaxUint32},
	} {
		if got := addr.Num(c.a); got != c.n {
			t.Errorf("P3.2: Num(%v): %#x instead of %#x", c.a, got, c.n)
		}
		if got := addr.Of(c.n); got != c.a {
			t.Errorf("P3.2: Of(%#x): %v instead of %v", c.n, got, c.a)
		}
	}
}

func TestNumAndOfOfEveryByte(t *testing.T) {
	for at := range 4 {
		for v := range 256 {
			a := api.Addr{0xa1, 0xb2, 0xc3, 0xd4}
			a[at] = byte(v)
			n := ((uint32(a[0])*256+uint32(a[1]))*256+uint32(a[2]))*256 + uint32(a[3])
			if got := addr.Num(a); got != n {
				t.Errorf("P3.2: Num(%v): %#x instead of %#x", a, got, n)
			}
			if got := addr.Of(n); got != a {
				t.Errorf("P3.2: Of(%#x): %v instead of %v", n, got, a)
			}
		}
	}
	for n := uint64(0); n <= math.MaxUint32; n += 65521 {
		if got := addr.Num(addr.Of(uint32(n))); got != uint32(n) {
			t.Fatalf("P3.2: Num of Of(%#x): %#x", n, got)
		}
	}
}

func TestHasExampleOfTheChapter(t *testing.T) {
	n := addr.Net{Addr: api.Addr{10, 1, 2, 3}, Bits: 16}
	for _, c := range []struct {
		a    api.Addr
		want bool
	}{
		{api.Addr{10, 1, 0, 0}, true},
		{api.Addr{10, 1, 2, 3}, true},
		{api.Addr{10, 1, 255, 255}, true},
		{api.Addr{10, 2, 0, 0}, false},
		{api.Addr{10, 2, 2, 3}, false},
		{api.Addr{10, 0, 255, 255}, false},
		{api.Addr{11, 1, 2, 3}, false},
		{api.Addr{}, false},
	} {
		if got := n.Has(c.a); got != c.want {
			t.Errorf("P3.2: Has(%v): %v", c.a, got)
		}
	}
	if first, last := n.First(), n.Last(); first != (api.Addr{10, 1, 0, 0}) || last != (api.Addr{10, 1, 255, 255}) {
		t.Errorf("P3.2: First, Last: %v, %v", first, last)
	}
}

// TestHasAgainstAModel compares bit by bit, for addresses that differ from that
// of the network in one bit, in all bits from one on, and anyhow.
func TestHasAgainstAModel(t *testing.T) {
	for _, bits := range bitCounts {
		for _, own := range someAddrs {
			others := append([]api.Addr{}, someAddrs...)
			for i := range 32 {
				others = append(others, withBit(own, i, 1-bit(own, i)), tail(own, i, 0), tail(own, i, 1))
			}
			n := addr.Net{Addr: own, Bits: bits}
			for _, a := range others {
				want := true
				for i := range counted(bits) {
					want = want && bit(a, i) == bit(own, i)
				}
				if got := n.Has(a); got != want {
					t.Errorf("P3.2: Has(%v) of %v with %d bits: %v", a, own, bits, got)
				}
			}
		}
	}
}

func TestFirstAndLastAgainstAModel(t *testing.T) {
	for _, bits := range bitCounts {
		for _, own := range someAddrs {
			n := addr.Net{Addr: own, Bits: bits}
			first, last := n.First(), n.Last()
			if want := tail(own, counted(bits), 0); first != want {
				t.Errorf("P3.2: First of %v with %d bits: %v instead of %v", own, bits, first, want)
			}
			if want := tail(own, counted(bits), 1); last != want {
				t.Errorf("P3.2: Last of %v with %d bits: %v instead of %v", own, bits, last, want)
			}
			if !n.Has(first) || !n.Has(last) {
				t.Errorf("P3.2: %v with %d bits has not its First or Last", own, bits)
			}
			if v := addr.Num(first); v > 0 && n.Has(addr.Of(v-1)) {
				t.Errorf("P3.2: %v with %d bits has an address before First", own, bits)
			}
			if v := addr.Num(last); v < math.MaxUint32 && n.Has(addr.Of(v+1)) {
				t.Errorf("P3.2: %v with %d bits has an address behind Last", own, bits)
			}
		}
	}
}

// TestResultsDependOnArgumentsAlone makes calls that succeed and that fail
// between those whose results it looks at.
func TestResultsDependOnArgumentsAlone(t *testing.T) {
	for range 2 {
		for _, c := range netTexts {
			addr.Parse("9.9.9.x")
			addr.ParseNet("255.255.255.255/7")
			addr.ParseMac("ff:ff:ff:ff:ff:fx")
			checkParseNet(t, c.s, c.n, api.OK)
			checkParse(t, c.first, c.n.First(), api.OK)
			checkParseMac(t, "00:00:00:00:00:01", api.Mac{0, 0, 0, 0, 0, 1}, api.OK)
		}
		for _, c := range addrTexts {
			addr.Text(api.Addr{255, 255, 255, 255})
			addr.MacText(api.Mac{255, 255, 255, 255, 255, 255})
			if s := addr.Text(c.a); s != c.s {
				t.Errorf("R5: Text(%v) after other calls: %q", c.a, s)
			}
		}
	}
}
