package wire_test

import (
	"encoding/binary"
	"fmt"
	"math"
	"math/big"
	"math/rand"
	"reflect"
	"slices"
	"strings"
	"testing"

	"speakeasy/api"
	"speakeasy/wire"
)

func randomText(source *rand.Rand, n int) string {
	b := make([]byte, n)
	source.Read(b)
	return string(b)
}

// length returns n as four bytes.
func length(n int) string { return string(binary.BigEndian.AppendUint32(nil, uint32(n))) }

func text(s string) string { return length(len(s)) + s }

// mpint returns the Text of a number, from the sizes that math/big tells.
func mpint(number string) string {
	n := new(big.Int).SetBytes([]byte(number))
	if n.Sign() == 0 {
		return length(0)
	}
	b := make([]byte, n.BitLen()/8+1)
	return text(string(n.FillBytes(b)))
}

// checkEnd checks that nothing can be read any more because of want.
func checkEnd(t *testing.T, what string, i *wire.In, want error) {
	t.Helper()
	for range 2 {
		if i.Left() != 0 || i.Err() != want || i.End() != want {
			t.Errorf("%s: %d left, error %v, at the end %v", what, i.Left(), i.Err(), i.End())
		}
		if i.Byte() != 0 || i.Bool() || i.U32() != 0 || i.U64() != 0 || i.Raw(0) != "" || i.Raw(1) != "" || i.Raw(-1) != "" || i.Text(9) != "" || i.Text(-1) != "" || len(i.Names()) != 0 || i.Big(9) != "" {
			t.Errorf("%s: a field after an error", what)
		}
	}
}

// P9.1: what each method appends.
func TestOut(t *testing.T) {
	tests := []struct {
		name string
		o    *wire.Out
		want string
	}{
		{"nothing", &wire.Out{}, ""},
		{"Byte 0", new(wire.Out).Byte(0), "\x00"},
		{"Byte 255", new(wire.Out).Byte(255), "\xff"},
		{"true", new(wire.Out).Bool(true), "\x01"},
		{"false", new(wire.Out).Bool(false), "\x00"},
		{"U32", new(wire.Out).U32(0x01020304), "\x01\x02\x03\x04"},
		{"U32, the greatest", new(wire.Out).U32(math.MaxUint32), "\xff\xff\xff\xff"},
		{"U64", new(wire.Out).U64(0x0102030405060708), "\x01\x02\x03\x04\x05\x06\x07\x08"},
		{"U64, the greatest", new(wire.Out).U64(math.MaxUint64), "\xff\xff\xff\xff\xff\xff\xff\xff"},
		{"Raw", new(wire.Out).Raw("a\x00\xff"), "a\x00\xff"},
		{"Raw, empty", new(wire.Out).Raw(""), ""},
		{"Text", new(wire.Out).Text("testing"), "\x00\x00\x00\x07testing"},
		{"Text, empty", new(wire.Out).Text(""), "\x00\x00\x00\x00"},
		{"Names, none", new(wire.Out).Names(), "\x00\x00\x00\x00"},
		{"Names, one", new(wire.Out).Names("zlib"), "\x00\x00\x00\x04zlib"},
		{"Names, two", new(wire.Out).Names("zlib", "none"), "\x00\x00\x00\x09zlib,none"},
		{"Names that are none", new(wire.Out).Names("", "a,b", " \xff"), "\x00\x00\x00\x07,a,b, \xff"},
		{"one empty name", new(wire.Out).Names(""), "\x00\x00\x00\x00"},
		{"two empty names", new(wire.Out).Names("", ""), "\x00\x00\x00\x01,"},
		{"Big 0", new(wire.Out).Big(""), "\x00\x00\x00\x00"},
		{"Big 0 of two bytes", new(wire.Out).Big("\x00\x00"), "\x00\x00\x00\x00"},
		{"Big 1", new(wire.Out).Big("\x01"), "\x00\x00\x00\x01\x01"},
		{"Big 127", new(wire.Out).Big("\x7f"), "\x00\x00\x00\x01\x7f"},
		{"Big 128", new(wire.Out).Big("\x80"), "\x00\x00\x00\x02\x00\x80"},
		{"Big 128 of two bytes", new(wire.Out).Big("\x00\x80"), "\x00\x00\x00\x02\x00\x80"},
		{"Big of RFC 4251", new(wire.Out).Big("\x09\xa3\x78\xf9\xb2\xe3\x32\xa7"), "\x00\x00\x00\x08\x09\xa3\x78\xf9\xb2\xe3\x32\xa7"},
		{"Big with a zero inside", new(wire.Out).Big("\x00\x01\x00\x80"), "\x00\x00\x00\x03\x01\x00\x80"},
	}
	for _, test := range tests {
		if s := test.o.Bytes(); s != test.want {
			t.Errorf("%s: %x, not %x", test.name, s, test.want)
		}
	}
}

// P9.1: each method returns its receiver, after which what it returned earlier
// stays as it is, and a list of names as well.
func TestOutGrows(t *testing.T) {
	var o wire.Out
	names := []string{"b", "a", "spare"}
	want := ""
	for round := range 100 {
		calls := []struct {
			call  func() *wire.Out
			bytes string
		}{
			{func() *wire.Out { return o.Byte(byte(round)) }, string([]byte{byte(round)})},
			{func() *wire.Out { return o.Bool(true) }, "\x01"},
			{func() *wire.Out { return o.U32(uint32(round)) }, length(round)},
			{func() *wire.Out { return o.U64(uint64(round)) }, length(0) + length(round)},
			{func() *wire.Out { return o.Raw("raw") }, "raw"},
			{func() *wire.Out { return o.Text("text") }, text("text")},
			{func() *wire.Out { return o.Names(names[:2]...) }, text("b,a")},
			{func() *wire.Out { return o.Big("\x00\x02") }, text("\x02")},
		}
		for _, c := range calls {
			before := o.Bytes()
			if p := c.call(); p != &o {
				t.Fatal("another receiver")
			}
			if before != want {
				t.Fatalf("%x became %x", want, before)
			}
			want += c.bytes
			if o.Bytes() != want || o.Bytes() != want {
				t.Fatalf("%x, not %x", o.Bytes(), want)
			}
		}
	}
	if !slices.Equal(names, []string{"b", "a", "spare"}) {
		t.Errorf("the names became %v", names)
	}
}

// P9.1: the encoding of numbers, compared with math/big.
func TestBigEncoding(t *testing.T) {
	source := rand.New(rand.NewSource(1))
	for n := range 200 {
		s := strings.Repeat("\x00", source.Intn(3)) + randomText(source, n/4)
		if got := new(wire.Out).Big(s).Bytes(); got != mpint(s) {
			t.Errorf("%x: %x, not %x", s, got, mpint(s))
		}
	}
}

// P9.1: reading fields one after the other, and what is left.
func TestIn(t *testing.T) {
	s := "\x07\x00\x02\xff\x00\x00\x01\x02\x00\x00\x00\x00\x00\x00\x01\x03raw" + text("text") + text("a,b") + text("") + text("\x00\x81") + "\x09"
	i := wire.Of(s)
	left := len(s)
	step := func(name string, size int, got, want any) {
		t.Helper()
		left -= size
		if !reflect.DeepEqual(got, want) || i.Left() != left || i.Err() != nil {
			t.Errorf("%s: %v, not %v; %d left, not %d; %v", name, got, want, i.Left(), left, i.Err())
		}
	}
	step("Left", 0, i.Left(), len(s))
	step("Byte", 1, i.Byte(), byte(7))
	step("Bool 0", 1, i.Bool(), false)
	step("Bool 2", 1, i.Bool(), true)
	step("Bool 255", 1, i.Bool(), true)
	step("U32", 4, i.U32(), uint32(258))
	step("U64", 8, i.U64(), uint64(259))
	step("Raw", 3, i.Raw(3), "raw")
	step("Raw of no bytes", 0, i.Raw(0), "")
	step("Raw of less", 0, i.Raw(-1), "")
	step("Raw of least", 0, i.Raw(math.MinInt), "")
	step("Text", 8, i.Text(4), "text")
	step("Names", 7, i.Names(), []string{"a", "b"})
	step("no Names", 4, len(i.Names()), 0)
	step("Big", 6, i.Big(1), "\x81")
	step("the last Byte", 1, i.Byte(), byte(9))
	if i.End() != nil || i.Err() != nil {
		t.Errorf("%v, %v", i.End(), i.Err())
	}
	if i.Raw(0) != "" || i.Raw(-5) != "" || i.End() != nil {
		t.Errorf("no bytes behind the last one: %v", i.End())
	}
	i.Byte()
	checkEnd(t, "behind the last byte", i, api.ErrEnd)
}

// P9.1: every way in which a field cannot be read, and that the first error stays.
func TestInErrors(t *testing.T) {
	tests := []struct {
		name, s string
		read    func(i *wire.In)
		want    error
	}{
		{"no Byte", "", func(i *wire.In) { i.Byte() }, api.ErrEnd},
		{"no Bool", "", func(i *wire.In) { i.Bool() }, api.ErrEnd},
		{"short U32", "\x01\x01\x01", func(i *wire.In) { i.U32() }, api.ErrEnd},
		{"short U64", "\x01\x01\x01\x01\x01\x01\x01", func(i *wire.In) { i.U64() }, api.ErrEnd},
		{"short Raw", "ab", func(i *wire.In) { i.Raw(3) }, api.ErrEnd},
		{"Raw of most", "ab", func(i *wire.In) { i.Raw(math.MaxInt) }, api.ErrEnd},
		{"short length", "\x00\x00\x00", func(i *wire.In) { i.Text(5) }, api.ErrEnd},
		{"short length, nothing allowed", "\x00\x00\x00", func(i *wire.In) { i.Text(-1) }, api.ErrEnd},
		{"short Text", length(3) + "ab", func(i *wire.In) { i.Text(3) }, api.ErrEnd},
		{"long Text", length(3) + "abc", func(i *wire.In) { i.Text(2) }, api.ErrBig},
		{"short and long Text", length(4) + "abc", func(i *wire.In) { i.Text(3) }, api.ErrBig},
		{"Text of most", "\xff\xff\xff\xff", func(i *wire.In) { i.Text(math.MaxUint32 - 1) }, api.ErrBig},
		{"short Text of most", "\xff\xff\xff\xff", func(i *wire.In) { i.Text(math.MaxInt) }, api.ErrEnd},
		{"Text, nothing allowed", length(1) + "a", func(i *wire.In) { i.Text(0) }, api.ErrBig},
		{"empty Text, less allowed", length(0), func(i *wire.In) { i.Text(-1) }, api.ErrBig},
		{"empty Text, least allowed", length(0), func(i *wire.In) { i.Text(math.MinInt) }, api.ErrBig},
		{"short length of Names", "\x00", func(i *wire.In) { i.Names() }, api.ErrEnd},
		{"short Names", length(3) + "a,", func(i *wire.In) { i.Names() }, api.ErrEnd},
		{"long Names", text(strings.Repeat("a,", 2048) + "a"), func(i *wire.In) { i.Names() }, api.ErrBig},
		{"short and long Names", length(4097), func(i *wire.In) { i.Names() }, api.ErrBig},
		{"first name empty", text(",a") + "rest", func(i *wire.In) { i.Names() }, api.ErrForm},
		{"last name empty", text("a,") + "rest", func(i *wire.In) { i.Names() }, api.ErrForm},
		{"name between empty", text("a,,b"), func(i *wire.In) { i.Names() }, api.ErrForm},
		{"all names empty", text(","), func(i *wire.In) { i.Names() }, api.ErrForm},
		{"name with a space", text("a,b c"), func(i *wire.In) { i.Names() }, api.ErrForm},
		{"long name", text("a," + strings.Repeat("b", 65)), func(i *wire.In) { i.Names() }, api.ErrForm},
		{"short Big", length(2) + "\x01", func(i *wire.In) { i.Big(2) }, api.ErrEnd},
		{"long Big", text("\x01\x02\x03"), func(i *wire.In) { i.Big(2) }, api.ErrBig},
		{"longer Big", text("\x00\x81\x02\x03"), func(i *wire.In) { i.Big(2) }, api.ErrBig},
		{"long Big that is none", text("\x00\x01\x02\x03"), func(i *wire.In) { i.Big(2) }, api.ErrBig},
		{"Big with a zero too many, one byte too long", text("\x00\x01\x02"), func(i *wire.In) { i.Big(2) }, api.ErrForm},
		{"Big below 0, one byte too long", text("\x81\x01\x02"), func(i *wire.In) { i.Big(2) }, api.ErrForm},
		{"Big below 0", text("\x80"), func(i *wire.In) { i.Big(9) }, api.ErrForm},
		{"Big with a zero too many", text("\x00\x7f"), func(i *wire.In) { i.Big(9) }, api.ErrForm},
		{"Big with two zeros", text("\x00\x00\x80"), func(i *wire.In) { i.Big(9) }, api.ErrForm},
		{"Big of one zero", text("\x00"), func(i *wire.In) { i.Big(0) }, api.ErrForm},
		{"Big 1, nothing allowed", text("\x01"), func(i *wire.In) { i.Big(0) }, api.ErrBig},
		{"Big 1, less allowed", text("\x01"), func(i *wire.In) { i.Big(-5) }, api.ErrBig},
		{"Big of two bytes, least allowed", text("\x01\x01"), func(i *wire.In) { i.Big(math.MinInt) }, api.ErrBig},
		{"Big of 4097 bytes", text(strings.Repeat("\x01", 4097)), func(i *wire.In) { i.Big(math.MaxInt) }, api.ErrBig},
		{"Big of 4097 bytes with a zero", text("\x00" + strings.Repeat("\x81", 4097)), func(i *wire.In) { i.Big(4097) }, api.ErrBig},
		{"bytes left", "ab", func(i *wire.In) { i.Byte(); i.End() }, api.ErrForm},
		{"ErrEnd first", "\x01" + text("\x00"), func(i *wire.In) { i.Raw(99); i.Big(5) }, api.ErrEnd},
		{"ErrBig first", text("\x01\x01\x01") + "\x01", func(i *wire.In) { i.Big(1); i.U32(); i.End() }, api.ErrBig},
		{"ErrForm first", text("\x00") + "\x01", func(i *wire.In) { i.Big(1); i.U32() }, api.ErrForm},
	}
	for _, test := range tests {
		i := wire.Of(test.s)
		test.read(i)
		if i.Err() != test.want {
			t.Errorf("%s: %v", test.name, i.Err())
		}
		checkEnd(t, test.name, i, test.want)
	}
}

// P9.1: with an error a list or text is empty, and a number 0.
func TestInZeroResults(t *testing.T) {
	for _, s := range []string{"\x01\x01\x01", text("a,b,"), text("a, "), text("\x00\x01\x01"), text("\x81")} {
		if l := wire.Of(s).Names(); len(l) != 0 {
			t.Errorf("%x: %v", s, l)
		}
		if n := wire.Of(s).Big(2); n != "" {
			t.Errorf("%x: %x", s, n)
		}
		if n := wire.Of(s[:3]).U32(); n != 0 {
			t.Errorf("%x: %d", s, n)
		}
		if n := wire.Of(s[:3]).U64(); n != 0 {
			t.Errorf("%x: %d", s, n)
		}
		if n := wire.Of(s[:3]).Raw(4); n != "" {
			t.Errorf("%x: %x", s, n)
		}
	}
}

// P9.1: the greatest fields that can be read.
func TestInLimits(t *testing.T) {
	names := strings.Repeat("a,", 2047) + "bc"
	if l := wire.Of(text(names)).Names(); len(names) != 4096 || strings.Join(l, ",") != names {
		t.Errorf("%d names", len(l))
	}
	for most, number := range map[int]string{0: "", -1: "", 1: "\xff", 2: "\x01\x00", 4096: strings.Repeat("\x80", 4096), math.MaxInt: strings.Repeat("\x81", 4096), 4095: strings.Repeat("\x7f", 4095)} {
		i := wire.Of(mpint(number))
		if n := i.Big(most); n != number || i.End() != nil {
			t.Errorf("%d bytes, %d allowed: %d bytes, %v", len(number), most, len(n), i.End())
		}
	}
	for _, s := range []string{"", "a", strings.Repeat("x", 40000)} {
		i := wire.Of(text(s))
		if got := i.Text(len(s)); got != s || i.End() != nil {
			t.Errorf("%d bytes: %d bytes, %v", len(s), len(got), i.End())
		}
	}
}

// P9.1: a name has 1 to 64 bytes that are printable, without space and comma.
func TestName(t *testing.T) {
	for b := range 256 {
		want := b >= 33 && b <= 126 && b != ','
		for _, s := range []string{string([]byte{byte(b)}), string([]byte{'a', byte(b)}), string([]byte{byte(b), 'a'}), string([]byte{'a', byte(b), 'a'})} {
			if wire.Name(s) != want {
				t.Errorf("%q: %v", s, !want)
			}
			if i := wire.Of(text(s)); b != ',' && (len(i.Names()) == 1) != want {
				t.Errorf("%q in a list: %v", s, i.Err())
			}
		}
	}
	for n := range 200 {
		if is := wire.Name(strings.Repeat("n", n)); is != (n >= 1 && n <= 64) {
			t.Errorf("%d bytes: %v", n, is)
		}
	}
	if wire.Name("curve25519-sha256@libssh.org") != true || wire.Name("ä") || wire.Name(strings.Repeat("ä", 40)) {
		t.Error("names with bytes beyond 126, or none")
	}
}

// field is a kind of field: how a random one is encoded, and what to read then.
type field struct {
	name string
	put  func(o *wire.Out, source *rand.Rand) any
	get  func(i *wire.In) any
	// again encodes what get returned.
	again func(o *wire.Out, value any)
}

func randomNames(source *rand.Rand) []string {
	var l []string
	for range source.Intn(5) {
		l = append(l, strings.Repeat(string([]byte{byte('!' + source.Intn(11))}), 1+source.Intn(64)))
	}
	return l
}

func fields() []field {
	return []field{
		{"Byte", func(o *wire.Out, source *rand.Rand) any { b := byte(source.Int()); o.Byte(b); return b }, func(i *wire.In) any { return i.Byte() }, func(o *wire.Out, v any) { o.Byte(v.(byte)) }},
		{"Bool", func(o *wire.Out, source *rand.Rand) any { b := source.Intn(2) == 0; o.Bool(b); return b }, func(i *wire.In) any { return i.Bool() }, nil},
		{"U32", func(o *wire.Out, source *rand.Rand) any { n := source.Uint32(); o.U32(n); return n }, func(i *wire.In) any { return i.U32() }, func(o *wire.Out, v any) { o.U32(v.(uint32)) }},
		{"U64", func(o *wire.Out, source *rand.Rand) any { n := source.Uint64(); o.U64(n); return n }, func(i *wire.In) any { return i.U64() }, func(o *wire.Out, v any) { o.U64(v.(uint64)) }},
		{"Raw", func(o *wire.Out, source *rand.Rand) any { s := randomText(source, 5); o.Raw(s); return s }, func(i *wire.In) any { return i.Raw(5) }, func(o *wire.Out, v any) { o.Raw(v.(string)) }},
		{"Text", func(o *wire.Out, source *rand.Rand) any {
			s := randomText(source, source.Intn(70))
			o.Text(s)
			return s
		}, func(i *wire.In) any { return i.Text(70) }, func(o *wire.Out, v any) { o.Text(v.(string)) }},
		{"Names", func(o *wire.Out, source *rand.Rand) any {
			l := randomNames(source)
			o.Names(l...)
			return strings.Join(l, ",")
		}, func(i *wire.In) any { return strings.Join(i.Names(), ",") }, func(o *wire.Out, v any) { o.Names(v.(string)) }},
		{"Big", func(o *wire.Out, source *rand.Rand) any {
			s := randomText(source, source.Intn(9))
			o.Big(s)
			return strings.TrimLeft(s, "\x00")
		}, func(i *wire.In) any { return i.Big(9) }, func(o *wire.Out, v any) { o.Big(v.(string)) }},
	}
}

// P9.2: any sequence of fields reads as what was encoded; P9.1: cut off anywhere,
// it fails with ErrEnd, and with a byte more it is not at its end.
func TestRoundTrip(t *testing.T) {
	source := rand.New(rand.NewSource(2))
	all := fields()
	for range 300 {
		var o wire.Out
		var kinds []field
		var values []any
		for range 1 + source.Intn(8) {
			f := all[source.Intn(len(all))]
			kinds, values = append(kinds, f), append(values, f.put(&o, source))
		}
		i := wire.Of(o.Bytes())
		for k, f := range kinds {
			if v := f.get(i); v != values[k] {
				t.Fatalf("%s: %v, not %v", f.name, v, values[k])
			}
		}
		if err := i.End(); err != nil {
			t.Fatal(err)
		}
		cut := wire.Of(o.Bytes()[:source.Intn(len(o.Bytes()))])
		more := wire.Of(o.Bytes() + "\x00")
		for _, f := range kinds {
			f.get(cut)
			f.get(more)
		}
		checkEnd(t, "cut off", cut, api.ErrEnd)
		if more.Left() != 1 || more.Err() != nil || more.End() != api.ErrForm {
			t.Fatalf("with a byte more: %d left, %v", more.Left(), more.Err())
		}
	}
}

// P9.2: whatever bytes a field is read from, they are its only encoding.
func TestOneEncoding(t *testing.T) {
	check := func(s string) {
		for _, f := range fields() {
			i := wire.Of(s)
			v := f.get(i)
			if i.Err() != nil || f.again == nil {
				continue
			}
			var o wire.Out
			f.again(&o, v)
			if read := s[:len(s)-i.Left()]; o.Bytes() != read {
				t.Fatalf("%s: %x reads as %v, which is %x", f.name, read, v, o.Bytes())
			}
		}
	}
	source := rand.New(rand.NewSource(3))
	for a := range 256 {
		for b := range 256 {
			for n := range 4 {
				check(length(n) + string([]byte{byte(a), byte(b), byte(source.Intn(3)), 'x'}))
			}
		}
	}
	for range 3000 {
		check(length(source.Intn(12)) + randomText(source, source.Intn(14)))
		check(randomText(source, source.Intn(10)))
	}
}

// P9.1: methods in any order, on any bytes, compared with a plain model.
func TestAnyCalls(t *testing.T) {
	source := rand.New(rand.NewSource(4))
	for range 2000 {
		s := ""
		for range source.Intn(6) {
			s += []string{length(source.Intn(4)), text("a,b"), text("\x00\x80"), text("\x00"), "\x01\x02", ""}[source.Intn(6)]
		}
		i, m := wire.Of(s), &model{rest: s}
		for range 8 {
			call, n := source.Intn(8), source.Intn(6)-1
			got, want := read(i, call, n), m.read(call, n)
			if got != want || i.Left() != len(m.rest) || i.Err() != m.err {
				t.Fatalf("%x, call %d %d: %s, not %s; %d left, not %d; %v, not %v", s, call, n, got, want, i.Left(), len(m.rest), i.Err(), m.err)
			}
		}
	}
}

func read(i *wire.In, call, n int) string {
	switch call {
	case 0:
		return fmt.Sprint(i.Byte())
	case 1:
		return fmt.Sprint(i.Bool())
	case 2:
		return fmt.Sprint(i.U32())
	case 3:
		return i.Raw(n)
	case 4:
		return i.Text(n)
	case 5:
		return strings.Join(i.Names(), ";")
	case 6:
		return i.Big(n)
	}
	return fmt.Sprint(i.End())
}

// model is a decoder that reads as the document says, step by step.
type model struct {
	rest string
	err  error
}

func (m *model) fail(err error) string {
	if m.err == nil {
		m.err = err
	}
	m.rest = ""
	return ""
}

func (m *model) take(n int) (string, bool) {
	if m.err != nil || len(m.rest) < n {
		return m.fail(api.ErrEnd), false
	}
	s := m.rest[:n]
	m.rest = m.rest[n:]
	return s, true
}

func (m *model) text(most int) (string, bool) {
	l, ok := m.take(4)
	if !ok {
		return "", false
	}
	n := int(binary.BigEndian.Uint32([]byte(l)))
	if n > most {
		return m.fail(api.ErrBig), false
	}
	return m.take(n)
}

func (m *model) read(call, n int) string {
	switch call {
	case 0, 1, 2:
		s, _ := m.take([]int{1, 1, 4}[call])
		b := new(big.Int).SetBytes([]byte(s))
		if call == 1 {
			return fmt.Sprint(b.Sign() != 0)
		}
		return b.String()
	case 3:
		s, _ := m.take(max(n, 0))
		return s
	case 4:
		s, _ := m.text(n)
		return s
	case 5:
		s, ok := m.text(4096)
		if ok && s != "" && slices.ContainsFunc(strings.Split(s, ","), func(name string) bool { return !wire.Name(name) }) {
			return m.fail(api.ErrForm)
		}
		return strings.ReplaceAll(s, ",", ";")
	case 6:
		n = max(n, 0)
		s, ok := m.text(n + 1)
		number := strings.TrimLeft(s, "\x00")
		if ok && mpint(s) != text(s) {
			return m.fail(api.ErrForm)
		}
		if ok && len(number) > n {
			return m.fail(api.ErrBig)
		}
		return number
	}
	if m.rest != "" {
		m.fail(api.ErrForm)
	}
	return fmt.Sprint(m.err)
}

// P9.1: decoders do not share anything, and the zero value is at its end.
func TestManyIn(t *testing.T) {
	a, b := wire.Of("ab"), wire.Of("cd")
	if a.Byte() != 'a' || b.Byte() != 'c' || a.Byte() != 'b' || b.Byte() != 'd' {
		t.Error("decoders share bytes")
	}
	l := wire.Of(text("x,y")).Names()
	l[0] = "changed"
	if again := wire.Of(text("x,y")).Names(); again[0] != "x" {
		t.Error("lists share memory")
	}
	var zero wire.In
	if zero.Left() != 0 || zero.End() != nil || zero.Byte() != 0 || zero.Err() != api.ErrEnd {
		t.Error("the zero value")
	}
}
