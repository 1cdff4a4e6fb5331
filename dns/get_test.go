package dns_test

import (
	"strings"
	"testing"

	"gatehouse/api"
	"gatehouse/dns"
)

func TestGet(t *testing.T) {
	checkGet(t, usualBytes, usual())
	checkGet(t, linked, unlinked())
	checkGet(t, head(0, 0, 0, 0), dns.Message{ID: 0x1234, Flags: 0x8180})
	checkGet(t, head(1, 0, 0, 0)+asks("\x01a\x00", 28), dns.Message{ID: 0x1234, Flags: 0x8180, Asked: questions(question(28, "a"))})
	checkGet(t, head(0, 1, 0, 0)+tells("\x01a\x00", 1, "1234"), dns.Message{ID: 0x1234, Flags: 0x8180, Answers: records(record(1, "1234", "a"))})
	checkGet(t, head(0, 0, 1, 0)+tells("\x01a\x00", 1, "1234"), dns.Message{ID: 0x1234, Flags: 0x8180, Owners: records(record(1, "1234", "a"))})
	checkGet(t, head(0, 0, 0, 1)+tells("\x01a\x00", 1, "1234"), dns.Message{ID: 0x1234, Flags: 0x8180, More: records(record(1, "1234", "a"))})
}

// TestGetOfEachNumber has all values of the numbers of two bytes.
func TestGetOfEachNumber(t *testing.T) {
	for v := range 1 << 16 {
		checkGet(t, pair(v)+"\x00\x00"+strings.Repeat("\x00", 8), dns.Message{ID: v})
		checkGet(t, "\x00\x00"+pair(v)+strings.Repeat("\x00", 8), dns.Message{Flags: v})
		q := dns.Question{Name: names("q"), Type: v, Class: 65535 - v}
		x := dns.Record{Type: 16, Class: v, Ttl: 7, Data: []byte("!")}
		b := "\x00\x00\x00\x00\x00\x01\x00\x00\x00\x00\x00\x01" + "\x01q\x00" + pair(v) + pair(65535-v) + "\x00\x00\x10" + pair(v) + quad(7) + "\x00\x01!"
		checkGet(t, b, dns.Message{Asked: questions(q), More: records(x)})
	}
}

// TestGetOfTtls has each bit of Ttl, and all values of its bytes.
func TestGetOfTtls(t *testing.T) {
	check := func(ttl uint32) {
		x := dns.Record{Type: 1, Class: 1, Ttl: ttl, Data: []byte{}}
		checkGet(t, head(0, 1, 0, 0)+asks("\x00", 1)+quad(ttl)+"\x00\x00", dns.Message{ID: 0x1234, Flags: 0x8180, Answers: records(x)})
	}
	for i := range 32 {
		check(1 << i)
		check(1<<i - 1)
		check(^uint32(0) << i)
		for c := range uint32(256) {
			check(c << (i &^ 7))
		}
	}
}

// TestGetOfEachType has bytes that are a name in Data of three types only, and some
// that are Data of one type only.
func TestGetOfEachType(t *testing.T) {
	for typ := range 1 << 16 {
		switch typ {
		case 2, 5, 12:
			checkData(t, typ, lead(12), "\x01a\x01b\x00")
			checkNotData(t, typ, "ab"+lead(12))
			checkNotData(t, typ, lead(12)+lead(14)+soa)
			checkNotData(t, typ, "")
		case 15:
			checkNotData(t, typ, lead(12))
			checkData(t, typ, "ab"+lead(12), "ab\x01a\x01b\x00")
			checkNotData(t, typ, lead(12)+lead(14)+soa)
			checkNotData(t, typ, "")
		case 6:
			checkNotData(t, typ, lead(12))
			checkNotData(t, typ, "ab"+lead(12))
			checkData(t, typ, lead(12)+lead(14)+soa, "\x01a\x01b\x00\x01b\x00"+soa)
			checkNotData(t, typ, "")
		default:
			m := dns.Message{ID: 0x1234, Flags: 0x8180, Answers: records(record(typ, lead(12)), record(typ, "ab"+lead(12)), record(typ, lead(12)+lead(14)+soa), record(typ, ""))}
			checkGet(t, head(0, 4, 0, 0)+tells("\x00", typ, lead(12))+tells("\x00", typ, "ab"+lead(12))+tells("\x00", typ, lead(12)+lead(14)+soa)+tells("\x00", typ, ""), m)
		}
	}
}

// TestGetOfEachClass has a type with names in its Data, which no class changes.
func TestGetOfEachClass(t *testing.T) {
	for class := range 1 << 16 {
		b := head(0, 1, 0, 0) + "\x01n\x00\x00\x05" + pair(class) + quad(9)
		x := dns.Record{Name: names("n"), Type: 5, Class: class, Ttl: 9, Data: []byte("\x01n\x00")}
		checkGet(t, b+"\x00\x02"+lead(12), dns.Message{ID: 0x1234, Flags: 0x8180, Answers: records(x)})
		checkNotGet(t, b+"\x00\x01\x01", api.EFORM)
	}
}

// TestGetOfSizes has the edges of the numbers of bytes.
func TestGetOfSizes(t *testing.T) {
	for n := range 12 {
		for _, b := range []string{head(0, 0, 0, 0), head(64, 0, 0, 0), head(65, 65, 65, 65), strings.Repeat("\x00", 12), strings.Repeat("\xff", 12), usualBytes} {
			checkNotGet(t, b[:n], api.ESHORT)
		}
	}
	if m, e := dns.Get(nil); e != api.ESHORT || !same(m, dns.Message{}) {
		t.Errorf("P21.1: Get(nil): %s, %d", show(m), e)
	}
	for n := range 1600 {
		m := dns.Message{ID: 0x1234, Flags: 0x8180, More: records(record(16, strings.Repeat("z", n)))}
		b := head(0, 0, 0, 1) + tells("\x00", 16, strings.Repeat("z", n))
		if n > 1449 {
			checkNotGet(t, b, api.ELIMIT)
			continue
		}
		checkGet(t, b, m)
	}
	for _, n := range []int{1473, 1474, 1500, 1501, 2000, 1 << 16, 1<<16 + 12, 1 << 22} {
		for _, b := range []string{usualBytes, linked, head(0, 0, 0, 0), head(65, 0, 0, 0), head(1, 0, 0, 0) + "\x40", strings.Repeat("\xff", 12)} {
			checkNotGet(t, b+strings.Repeat("\x00", n-len(b)), api.ELIMIT)
		}
	}
	checkNotGet(t, usualBytes+strings.Repeat("\x00", 1472-len(usualBytes)), api.EFORM)
}

// TestGetOfCounts has numbers of questions and records around the limit, with as
// many questions and records.
func TestGetOfCounts(t *testing.T) {
	question := asks("\x00", 7)
	answer, owner, other := tells("\x00", 1, "a"), tells("\x00", 1, "b"), tells("\x00", 1, "c")
	some := []int{0, 1, 2, 15, 16, 17, 31, 32, 33, 62, 63, 64, 65, 66, 70}
	for _, asked := range some {
		for _, answers := range some {
			for _, owners := range some {
				for _, more := range some {
					b := head(asked, answers, owners, more) + strings.Repeat(question, asked) + strings.Repeat(answer, answers) + strings.Repeat(owner, owners) + strings.Repeat(other, more)
					checkCounts(t, b, asked, answers, owners, more)
				}
			}
		}
	}
}

// checkCounts looks at the numbers of what Get finds, and at one byte of each.
func checkCounts(t *testing.T, b string, asked, answers, owners, more int) {
	t.Helper()
	if len(b) > 1472 || asked+answers+owners+more > 64 {
		checkNotGet(t, b, api.ELIMIT)
		return
	}
	m, e := dns.Get([]byte(b))
	if e != api.OK || len(m.Asked) != asked || len(m.Answers) != answers || len(m.Owners) != owners || len(m.More) != more {
		t.Fatalf("P21.1: %d, %d, %d and %d: %s, %d", asked, answers, owners, more, show(m), e)
	}
	for _, q := range m.Asked {
		if q.Type != 7 {
			t.Fatalf("P21.1: %d questions: %s", asked, show(m))
		}
	}
	for i, l := range [][]dns.Record{m.Answers, m.Owners, m.More} {
		for _, x := range l {
			if string(x.Data) != "abc"[i:i+1] {
				t.Fatalf("P21.1: %d, %d, %d and %d: %s", asked, answers, owners, more, show(m))
			}
		}
	}
	if asked+answers+owners+more > 0 {
		checkNotGet(t, b[:len(b)-1], api.ESHORT)
	}
	checkNotGet(t, b+"\x00", api.EFORM)
}

// TestGetOfTooLargeCounts has numbers for which there are no bytes, and whose sum is
// beyond two bytes: they precede all other errors but those of the length of b.
func TestGetOfTooLargeCounts(t *testing.T) {
	for n := range 1 << 16 {
		for _, h := range []string{head(n, 0, 0, 0), head(0, n, 0, 0), head(0, 0, n, 0), head(0, 0, 0, n)} {
			switch {
			case n > 64:
				checkNotGet(t, h, api.ELIMIT)
			case n > 0:
				checkNotGet(t, h, api.ESHORT)
			}
		}
	}
	for _, h := range []string{head(1, 65535, 0, 0), head(65535, 1, 0, 0), head(32768, 0, 32768, 0), head(0, 65535, 1, 0), head(0, 0, 1, 65535), head(65535, 65535, 65535, 65535), head(16384, 16384, 16384, 16384), head(65, 0, 0, 0), head(33, 32, 0, 0), head(0, 0, 1, 64)} {
		for _, behind := range []string{"", "\x40", "\x00", "\xc0\x0c", strings.Repeat("\x00", 1460)} {
			checkNotGet(t, h+behind, api.ELIMIT)
		}
	}
}

// TestGetOfBeginnings has all beginnings of messages: b has ended too soon.
func TestGetOfBeginnings(t *testing.T) {
	for _, b := range []string{usualBytes, linked} {
		for n := range b {
			checkNotGet(t, b[:n], api.ESHORT)
			long := []byte(b)
			if m, e := dns.Get(long[:n]); e != api.ESHORT || !same(m, dns.Message{}) {
				t.Errorf("P21.1: the first %d bytes with others behind them: %s, %d", n, show(m), e)
			}
		}
	}
}

func TestGetOfFurtherBytes(t *testing.T) {
	for _, b := range []string{usualBytes, linked, head(0, 0, 0, 0)} {
		for c := range 256 {
			checkNotGet(t, b+string([]byte{byte(c)}), api.EFORM)
		}
		for n := 1; len(b)+n <= 1472; n++ {
			checkNotGet(t, b+strings.Repeat("\x00", n), api.EFORM)
		}
		checkNotGet(t, b+b, api.EFORM)
	}
}

// TestGetOfWrongNames has each of them as the name of each question and record.
func TestGetOfWrongNames(t *testing.T) {
	good := tells("\x01a\x00", 1, "1234")
	for _, c := range []struct {
		name string
		e    api.Errno
	}{
		{"", api.ESHORT}, {"\x01", api.ESHORT}, {"\x01a", api.ESHORT}, {"\xc0", api.ESHORT}, {"\x3f" + letters(62), api.ESHORT}, {"\x02ab\x05abcd", api.ESHORT},
		{"\x40", api.EFORM}, {"\xbf", api.EFORM}, {"\x01a\x80", api.EFORM}, {"\xc5\x00", api.EFORM}, {"\x01a\xff\xff", api.EFORM},
		{strings.Repeat("\x01a", 128), api.EFORM}, {strings.Repeat("\x01a", 127), api.ESHORT},
	} {
		for n := range 3 {
			for _, h := range []string{head(n+1, 0, 0, 0), head(n+1, 3, 4, 5), head(n+1, 0, 0, 1)} {
				checkNotGet(t, h+strings.Repeat(asks("\x00", 1), n)+c.name, c.e)
			}
			for _, h := range []string{head(1, n+1, 0, 0), head(1, n+1, 2, 3), head(1, 0, n+1, 0), head(1, 0, n+1, 2), head(1, 0, 0, n+1)} {
				checkNotGet(t, h+asks("\x00", 1)+strings.Repeat(good, n)+c.name, c.e)
			}
		}
		b := asks("\x00", 1)
		for _, l := range [][]string{{head(2, 1, 1, 1), head(1, 1, 1, 1)}, {head(1, 2, 1, 1), head(1, 1, 1, 1)}, {head(1, 1, 2, 1), head(1, 1, 1, 1)}, {head(1, 1, 1, 2)}} {
			for _, h := range l {
				checkNotGet(t, h+b+c.name, c.e)
			}
			b += good
		}
	}
}

// TestGetOfPointersAnywhere has names that go on in the first bytes of the message, in
// a question's Type, in a Ttl, in a length and in Data.
func TestGetOfPointersAnywhere(t *testing.T) {
	b := "\x01i\x00\x01\x00\x01\x00\x02\x00\x00\x00\x01" +
		"\x02qq" + lead(0) + "\x01b\x00\x00" + // 12, with its Type at 17
		lead(17) + "\x00\x10\x00\x01\x01t\x00\x00\x00\x03\x01d\x00" + // 21, with its Ttl at 27, its length at 31 and its Data at 33
		"\x01e" + lead(33) + "\x00\x05\x00\x01\x01f\x00\x00\x00\x04\x01g" + lead(44) + // 36, with its Ttl at 44
		lead(27) + "\x00\x06\x00\x01\x00\x00\x00\x00\x00\x18" + lead(31) + lead(38) + soa
	checkGet(t, b, dns.Message{
		ID: 0x0169, Flags: 1,
		Asked: questions(dns.Question{Name: names("qq", "i"), Type: 0x0162}),
		Answers: records(
			dns.Record{Name: names("b"), Type: 16, Class: 1, Ttl: 0x01740000, Data: []byte("\x01d\x00")},
			dns.Record{Name: names("e", "d"), Type: 5, Class: 1, Ttl: 0x01660000, Data: []byte("\x01g\x01f\x00")}),
		More: records(dns.Record{Name: names("t"), Type: 6, Class: 1, Data: []byte("\x00\x01d\x00" + soa)}),
	})
}

// TestGetOfNamesIntoOtherParts has labels that contain what follows a name: Type and
// Class, and of those that the end of Data does not permit.
func TestGetOfNamesIntoOtherParts(t *testing.T) {
	b := head(1, 0, 0, 0) + "\x02\x05z" + lead(13) + "\x00\x07\x00\x09"
	m := dns.Message{ID: 0x1234, Flags: 0x8180, Asked: questions(dns.Question{Name: names("\x05z", "z\xc0\x0d\x00\x07"), Type: 7, Class: 9})}
	checkGet(t, b, m)
	// a label that begins in Data and leads beyond its end, by several bytes
	for n := range 30 {
		data := "\x02" + string([]byte{byte(3 + n)}) + "z" + lead(24)
		for _, behind := range []string{"", strings.Repeat("\x00", 4), strings.Repeat("\x00", 200)} {
			checkNotGet(t, head(0, 1, 0, 0)+tells("\x00", 5, data)+behind, api.EFORM)
			checkNotGet(t, head(0, 2, 0, 0)+tells("\x00", 5, data)+behind, api.EFORM)
			checkNotGet(t, head(0, 1, 0, 0)+tells("\x00", 15, "xy"+data[:3]+lead(26))+behind, api.EFORM)
		}
	}
	// and one that ends with Data, so that there is no end of the name
	checkNotGet(t, head(0, 1, 0, 0)+tells("\x00", 5, "\x02\x03z"+lead(24))+"\x00", api.EFORM)
	// one that contains its own pointer and ends before Data does
	data := "\x02\x03z" + lead(24) + "\x00" + soa[1:] + "\x00"
	m = dns.Message{ID: 0x1234, Flags: 0x8180, Owners: records(record(6, "\x02\x03z\x03z\xc0\x18\x00\x00"+soa[1:]+"\x00"))}
	checkGet(t, head(0, 0, 1, 0)+tells("\x00", 6, data), m)
}

// TestGetOfPointersForward has names that lead to themselves or behind them.
func TestGetOfPointersForward(t *testing.T) {
	for to := range 1 << 14 {
		for _, labels := range []string{"", "\x01a", "\x02ab\x01c"} {
			first := 12 + len(labels)
			b := head(1, 0, 0, 0) + asks(labels+lead(to), 1)
			if to >= first {
				checkNotGet(t, b, api.EFORM)
				checkNotGet(t, b[:first+2], api.EFORM)
				checkNotGet(t, b[:first+1], api.ESHORT)
			}
			b = head(0, 1, 0, 0) + tells("\x00", 5, labels+lead(to))
			if to >= first+11 {
				checkNotGet(t, b, api.EFORM)
				checkNotGet(t, b+strings.Repeat("\x00", 100), api.EFORM)
			}
		}
	}
}

// TestGetOfOneName has Data of the types that consist of one name.
func TestGetOfOneName(t *testing.T) {
	for _, typ := range []int{2, 5, 12} {
		for data, want := range map[string]string{
			"\x00": "\x00", "\x01z\x00": "\x01z\x00", "\x01z\x02yx\x00": "\x01z\x02yx\x00", "\xc0\x0c": "\x01a\x01b\x00", "\xc0\x0e": "\x01b\x00", "\xc0\x10": "\x00", "\x01z\xc0\x0e": "\x01z\x01b\x00", "\x01z\x02yx\xc0\x0c": "\x01z\x02yx\x01a\x01b\x00",
			"\x01A\x00": "\x01A\x00", "\x03\x00.\xff\x00": "\x03\x00.\xff\x00", "\xc0\x15": "\x01a\x01b\x00", "\xc0\x1b": "\x00",
		} {
			checkData(t, typ, data, want)
		}
		for _, l := range longNames() {
			checkData(t, typ, whole(l...), whole(l...))
			checkNotData(t, typ, whole(append(names("y"), l...)...))
			checkNotData(t, typ, whole(l...)[:255-1]+lead(14))
		}
		for _, data := range []string{
			"", "\x00\x00", "\x01z\x00\x00", "\xc0\x0c\x00", "\xc0\x0e\xc0\x0e", "\x00\xc0\x0e", "\x00z", "\x00" + soa, "\x00\x00" + soa, "ab\x00", "\x00\x07\x00",
			"\x01", "\x01z", "\x05z", "\x3fz", "\xc0", "\x01z\xc0", "\x40", "\x40z", "\xbf\x00", "\x01z\x40\x00", "\xc0\x21", "\xc0\x22", "\xc0\xff", "\xff\xff", "\x01z\xc0\x23", "\x01z\xc0\x21",
		} {
			checkNotData(t, typ, data)
		}
	}
}

// TestGetOfMail has Data of type 15, with two bytes before its name.
func TestGetOfMail(t *testing.T) {
	for v := range 1 << 16 {
		data := pair(v)
		checkGet(t, head(0, 1, 0, 0)+tells("\x00", 15, data+"\x01m\x00"), dns.Message{ID: 0x1234, Flags: 0x8180, Answers: records(record(15, data+"\x01m\x00"))})
	}
	for data, want := range map[string]string{"\x00": "\x00", "\x01z\x00": "\x01z\x00", "\xc0\x0c": "\x01a\x01b\x00", "\x01z\xc0\x0e": "\x01z\x01b\x00", "\xc0\x10": "\x00"} {
		for _, before := range []string{"\x00\x00", "\x00\x0a", "\xc0\x0c", "\xff\xff", "\x01z", "\x40\x80"} {
			checkData(t, 15, before+data, before+want)
			checkNotData(t, 15, before+data+"\x00")
			checkNotData(t, 15, before[1:]+data[:len(data)-1])
		}
	}
	for _, l := range longNames() {
		checkData(t, 15, "\x00\x01"+whole(l...), "\x00\x01"+whole(l...))
		checkNotData(t, 15, "\x00\x01"+whole(append(names("y"), l...)...))
	}
	for _, data := range []string{"", "\x00", "\x01", "\xc0", "\x00\x00", "\x00\x0a", "\xc0\x0c", "\x01z", "\x00\x0a\x01", "\x00\x0a\x01z", "\x00\x0a\xc0", "\x00\x0a\x40\x00", "\x00\x0a\xc0\x23", "\x00\x0a\x00\x00", "\x00\x0a\xc0\xff", "\x00\x0a\x00" + soa} {
		checkNotData(t, 15, data)
	}
}

// TestGetOfAuthority has Data of type 6, with two names and all numbers of bytes
// behind them.
func TestGetOfAuthority(t *testing.T) {
	parts := map[string]string{"\x00": "\x00", "\x01z\x00": "\x01z\x00", "\xc0\x0c": "\x01a\x01b\x00", "\x01z\xc0\x0e": "\x01z\x01b\x00", "\xc0\x10": "\x00"}
	for first, wantFirst := range parts {
		for second, wantSecond := range parts {
			checkData(t, 6, first+second+soa, wantFirst+wantSecond+soa)
			for _, rest := range []string{"", "\x00", soa[1:], soa + "\x00", soa + soa, soa[:10]} {
				checkNotData(t, 6, first+second+rest)
			}
			checkNotData(t, 6, first+soa)
		}
		for _, wrong := range []string{"", "\x01", "\x40", "\xc0", "\x3fz", "\xc0\xff", "\xc4\x00", strings.Repeat("\x01a", 128) + "\x00"} {
			checkNotData(t, 6, first+wrong)
			checkNotData(t, 6, wrong+first)
			if wrong != "" && wrong != "\x01" && wrong != "\xc0" && wrong[0] != 0x3f {
				checkNotData(t, 6, first+wrong+soa)
				checkNotData(t, 6, wrong+first+soa)
			}
		}
	}
	// the second name goes on at the first one, and at a pointer in it
	checkData(t, 6, "\x01z\xc0\x0e\x01y\xc0\x21"+soa, "\x01z\x01b\x00\x01y\x01z\x01b\x00"+soa)
	checkData(t, 6, "\x01z\xc0\x0e\xc0\x23"+soa, "\x01z\x01b\x00\x01b\x00"+soa)
	for i := range 20 {
		for c := range 256 {
			rest := soa[:i] + string([]byte{byte(c)}) + soa[i+1:]
			checkData(t, 6, "\x00\x00"+rest, "\x00\x00"+rest)
		}
	}
	for n := range 60 {
		if n != 20 {
			checkNotData(t, 6, "\x00\x00"+strings.Repeat("\x00", n))
			checkNotData(t, 6, lead(12)+"\x00"+strings.Repeat("z", n))
		}
	}
}

// TestGetOfLongData has Data that is longer without pointers.
func TestGetOfLongData(t *testing.T) {
	l := longNames()[0]
	m := dns.Message{ID: 0x1234, Flags: 0x8180, Asked: questions(question(1, l...))}
	b := asks(whole(l...), 1)
	for range 15 {
		b += tells(lead(12), 6, lead(12)+lead(12)+soa) + tells(lead(76), 15, "xy"+lead(12)) + tells("\x00", 12, lead(76))
		m.More = append(m.More, record(6, whole(l...)+whole(l...)+soa, l...), record(15, "xy"+whole(l...), l[1:]...), record(12, whole(l[1:]...)))
	}
	checkGet(t, head(1, 0, 0, 45)+b, m)
	checkNotPut(t, m, api.ELIMIT)
}

// TestGetOfManyPointers has as many pointers as a name may have, and more, in names
// and in Data.
func TestGetOfManyPointers(t *testing.T) {
	for n := 1; n < 100; n++ {
		data := "\x01e\x00" + lead(23) // at 23 and at 26
		for i := range n - 1 {
			data += lead(26 + 2*i)
		}
		last := lead(24 + 2*n)
		b := head(0, 2, 0, 0) + tells("\x00", 16, data)
		if n > 63 {
			checkNotGet(t, b+tells(last, 1, "1234"), api.EFORM)
			checkNotGet(t, b+tells("\x00", 5, last), api.EFORM)
			checkNotGet(t, b+tells("\x00", 6, last+last+soa), api.EFORM)
			continue
		}
		m := dns.Message{ID: 0x1234, Flags: 0x8180, Answers: records(record(16, data), record(1, "1234", "e"))}
		checkGet(t, b+tells(last, 1, "1234"), m)
		m.Answers[1] = record(5, "\x01e\x00")
		checkGet(t, b+tells("\x00", 5, last), m)
		m.Answers[1] = record(6, "\x01e\x00\x01e\x00"+soa)
		checkGet(t, b+tells("\x00", 6, last+last+soa), m)
	}
}

// TestGetOfLengths has all lengths of Data before a certain number of bytes.
func TestGetOfLengths(t *testing.T) {
	for _, left := range []int{0, 1, 30, 256, 1000} {
		rest := strings.Repeat("\x40", left)
		for n := range 1 << 16 {
			for _, typ := range []int{1, 5, 6, 15} {
				b := head(0, 1, 0, 0) + asks("\x00", typ) + quad(60) + pair(n) + rest
				switch {
				case n > left:
					checkNotGet(t, b, api.ESHORT)
				case n < left || typ != 1:
					checkNotGet(t, b, api.EFORM)
				default:
					checkGet(t, b, dns.Message{ID: 0x1234, Flags: 0x8180, Answers: records(record(1, rest))})
				}
			}
		}
	}
}

// TestGetOfSeveralErrors has two errors, of which the first one counts.
func TestGetOfSeveralErrors(t *testing.T) {
	form, short := tells("\x40", 1, "1234"), "\x00\x00\x01\x00\x01\x00"
	badData, good := tells("\x00", 5, "\x40"), tells("\x00", 1, "1234")
	asked := asks("\x00", 1)
	for _, c := range []struct {
		b string
		e api.Errno
	}{
		{head(2, 0, 0, 0) + asks("\x40", 1), api.EFORM}, {head(2, 0, 0, 0) + asked + "\x40", api.EFORM}, {head(2, 0, 0, 0) + asked + "\x00\x00", api.ESHORT}, {head(1, 1, 0, 0) + "\x00\x00\x01\x00", api.ESHORT}, {head(1, 1, 0, 0) + "\x40" + good, api.EFORM},
		{head(0, 2, 0, 0) + badData + short, api.EFORM}, {head(0, 1, 1, 0) + badData + short, api.EFORM}, {head(0, 1, 0, 1) + badData, api.EFORM}, {head(0, 2, 0, 0) + good + short, api.ESHORT}, {head(0, 0, 2, 0) + good + form, api.EFORM}, {head(0, 0, 1, 1) + form + short, api.EFORM}, {head(0, 0, 0, 2) + badData + form, api.EFORM},
		{head(0, 1, 0, 0) + badData + "\x00", api.EFORM}, {head(0, 1, 0, 0) + badData[:len(badData)-1], api.ESHORT}, {head(0, 1, 0, 0) + asks("\x00", 6) + quad(1) + "\x00\x05\x40\x40\x40\x40", api.ESHORT}, {head(0, 1, 0, 0) + asks("\x00", 6) + quad(1) + "\x00\x05\x40\x40\x40\x40\x40", api.EFORM}, {head(0, 1, 0, 0) + asks("\x00", 5) + quad(1) + "\x00\x02\xc0", api.ESHORT}, {head(0, 1, 0, 0) + asks("\x00", 5) + quad(1) + "\x01\x00" + strings.Repeat("\x01a", 127) + "\x00", api.ESHORT},
		{head(0, 1, 0, 0) + "\x40", api.EFORM}, {head(0, 1, 0, 0) + "\xc0", api.ESHORT}, {head(0, 1, 0, 0) + "\x3fabc", api.ESHORT}, {head(0, 1, 0, 0) + lead(12) + good, api.EFORM},
		{head(65, 0, 0, 0) + "\x40", api.ELIMIT}, {head(65, 0, 0, 0), api.ELIMIT}, {head(65, 0, 0, 0)[:11], api.ESHORT}, {head(65, 0, 0, 0) + strings.Repeat("\x40", 1461), api.ELIMIT}, {head(1, 0, 0, 0) + strings.Repeat("\x40", 1461), api.ELIMIT}, {head(1, 0, 0, 0) + strings.Repeat("\x40", 1460), api.EFORM},
	} {
		checkNotGet(t, c.b, c.e)
	}
}
