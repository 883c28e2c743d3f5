package message_test

import (
	"encoding/binary"
	"errors"
	"math"
	"math/rand"
	"reflect"
	"slices"
	"strings"
	"testing"

	"speakeasy/api"
	"speakeasy/message"
)

// kinds is the table of the document.
var kinds = map[int][2]string{
	1: {"disconnect", "uss"}, 2: {"ignore", "s"},
	3: {"unimplemented", "u"}, 4: {"debug", "bss"},
	5: {"service-request", "s"}, 6: {"service-accept", "s"},
	20: {"kexinit", "cnnnnnnnnnnbu"}, 21: {"newkeys", ""},
	30: {"ecdh-init", "s"}, 31: {"ecdh-reply", "sss"},
	50: {"auth-request", "sssr"}, 51: {"auth-failure", "nb"},
	52: {"auth-success", ""}, 53: {"banner", "ss"},
	60: {"pk-ok", "ss"}, 80: {"global-request", "sbr"},
	81: {"request-success", "r"}, 82: {"request-failure", ""},
	90: {"open", "suuur"}, 91: {"confirm", "uuuur"},
	92: {"open-failure", "uuss"}, 93: {"adjust", "uu"},
	94: {"data", "us"}, 95: {"extended", "uus"},
	96: {"eof", "u"}, 97: {"close", "u"},
	98: {"channel-request", "usbr"}, 99: {"channel-success", "u"},
	100: {"channel-failure", "u"},
}

// sorted returns the kinds in their order.
func sorted() []int {
	var l []int
	for kind := range 256 {
		if _, ok := kinds[kind]; ok {
			l = append(l, kind)
		}
	}
	return l
}

func length(n int) string { return string(binary.BigEndian.AppendUint32(nil, uint32(n))) }

func text(s string) string { return length(len(s)) + s }

func randomText(source *rand.Rand, n int) string {
	b := make([]byte, n)
	source.Read(b)
	return string(b)
}

func randomNames(source *rand.Rand) []string {
	var l []string
	for range source.Intn(4) {
		l = append(l, strings.Repeat(string([]byte{byte('-' + source.Intn(80))}), 1+source.Intn(64)))
	}
	return l
}

// random returns a message of a kind, and its encoding as the document says.
func random(source *rand.Rand, kind int) (message.Msg, string) {
	m := message.Msg{Kind: kind}
	s := string([]byte{byte(kind)})
	for _, letter := range kinds[kind][1] {
		switch letter {
		case 'u':
			n := source.Uint32()
			m.U, s = append(m.U, n), s+length(int(n))
		case 'b':
			b := source.Intn(2)
			m.B, s = append(m.B, b == 1), s+string([]byte{byte(b)})
		case 'n':
			l := randomNames(source)
			m.N, s = append(m.N, l), s+text(strings.Join(l, ","))
		case 's':
			x := randomText(source, source.Intn(50))
			m.S, s = append(m.S, x), s+text(x)
		case 'c':
			x := randomText(source, 16)
			m.S, s = append(m.S, x), s+x
		case 'r':
			x := randomText(source, source.Intn(50))
			m.S, s = append(m.S, x), s+x
		}
	}
	return m, s
}

func same(a, b message.Msg) bool {
	return a.Kind == b.Kind && slices.Equal(a.U, b.U) && slices.Equal(a.S, b.S) && slices.Equal(a.B, b.B) && slices.EqualFunc(a.N, b.N, slices.Equal)
}

// zero reports whether m is the zero Msg.
func zero(m message.Msg) bool {
	return m.Kind == 0 && len(m.U) == 0 && len(m.S) == 0 && len(m.N) == 0 && len(m.B) == 0
}

// checkParse checks that Parse returns an error, and no message with it.
func checkParse(t *testing.T, what, s string, want error) {
	t.Helper()
	if m, err := message.Parse(s); err != want || !zero(m) {
		t.Errorf("%s: %v, %v, not %v", what, m, err, want)
	}
}

// checkUnfit checks that a message has an error, and no encoding.
func checkUnfit(t *testing.T, what string, m message.Msg, want error) {
	t.Helper()
	if err := m.Check(); err != want {
		t.Errorf("%s: %v, not %v", what, err, want)
	}
	if s := m.Bytes(); s != "" {
		t.Errorf("%s: %x", what, s)
	}
}

// P10.1: the kinds, their names and fields; and all other numbers.
func TestKinds(t *testing.T) {
	for kind := -300; kind < 70000; kind++ {
		row, ok := kinds[kind]
		if fields, is := message.Fields(kind); fields != row[1] || is != ok {
			t.Fatalf("Fields of %d: %q, %v", kind, fields, is)
		}
		if name := message.Name(kind); name != row[0] {
			t.Fatalf("Name of %d: %q", kind, name)
		}
	}
	for _, kind := range []int{math.MinInt, math.MaxInt, 1 << 32, 1<<32 + 1, -1 << 32} {
		if fields, is := message.Fields(kind); fields != "" || is || message.Name(kind) != "" {
			t.Errorf("%d: %q, %v, %q", kind, fields, is, message.Name(kind))
		}
		checkUnfit(t, "no kind", message.Msg{Kind: kind, U: []uint32{1}, S: []string{"", ""}}, api.ErrKind)
	}
}

// P10.1: the constants are the kinds of these names.
func TestConstants(t *testing.T) {
	names := map[string]int{
		"disconnect": message.Disconnect, "ignore": message.Ignore, "unimplemented": message.Unimplemented, "debug": message.Debug,
		"service-request": message.ServiceRequest, "service-accept": message.ServiceAccept, "kexinit": message.KexInit, "newkeys": message.NewKeys,
		"ecdh-init": message.ECDHInit, "ecdh-reply": message.ECDHReply, "auth-request": message.AuthRequest, "auth-failure": message.AuthFailure,
		"auth-success": message.AuthSuccess, "banner": message.Banner, "pk-ok": message.PKOK, "global-request": message.GlobalRequest,
		"request-success": message.RequestSuccess, "request-failure": message.RequestFailure, "open": message.Open, "confirm": message.Confirm,
		"open-failure": message.OpenFailure, "adjust": message.Adjust, "data": message.Data, "extended": message.Extended, "eof": message.EOF,
		"close": message.Close, "channel-request": message.ChannelRequest, "channel-success": message.ChannelSuccess, "channel-failure": message.ChannelFailure,
	}
	for _, kind := range sorted() {
		if name := kinds[kind][0]; names[name] != kind {
			t.Errorf("%s is %d, not %d", name, names[name], kind)
		}
	}
}

// P10.1: encodings that are written out.
func TestExamples(t *testing.T) {
	none := make([][]string, 10)
	tests := []struct {
		m    message.Msg
		want string
	}{
		{message.Msg{Kind: 94, U: []uint32{7}, S: []string{"ab"}}, "\x5e\x00\x00\x00\x07\x00\x00\x00\x02ab"},
		{message.Msg{Kind: 1, U: []uint32{11}, S: []string{"by", ""}}, "\x01\x00\x00\x00\x0b\x00\x00\x00\x02by\x00\x00\x00\x00"},
		{message.Msg{Kind: 4, B: []bool{true}, S: []string{"a", "b"}}, "\x04\x01\x00\x00\x00\x01a\x00\x00\x00\x01b"},
		{message.Msg{Kind: 21}, "\x15"},
		{message.Msg{Kind: 81, S: []string{""}}, "\x51"},
		{message.Msg{Kind: 81, S: []string{"rest"}}, "\x51rest"},
		{message.Msg{Kind: 51, N: [][]string{{"publickey", "x"}}, B: []bool{false}}, "\x33\x00\x00\x00\x0bpublickey,x\x00"},
		{message.Msg{Kind: 51, N: [][]string{nil}, B: []bool{true}}, "\x33\x00\x00\x00\x00\x01"},
		{message.Msg{Kind: 20, S: []string{"0123456789abcdef"}, N: none, B: []bool{false}, U: []uint32{258}}, "\x14" + "0123456789abcdef" + strings.Repeat("\x00", 41) + "\x00\x00\x01\x02"},
		{message.Msg{Kind: 98, U: []uint32{3}, S: []string{"x", "\x00"}, B: []bool{true}}, "\x62\x00\x00\x00\x03\x00\x00\x00\x01x\x01\x00"},
	}
	for _, test := range tests {
		if err := test.m.Check(); err != nil || test.m.Bytes() != test.want {
			t.Errorf("%v: %x, %v", test.m, test.m.Bytes(), err)
		}
		if m, err := message.Parse(test.want); !same(m, test.m) || err != nil {
			t.Errorf("%x: %v, %v", test.want, m, err)
		}
	}
}

// P10.1, P10.2: random messages of all kinds, their encoding and its decoding.
func TestRoundTrip(t *testing.T) {
	source := rand.New(rand.NewSource(1))
	for _, kind := range sorted() {
		for range 40 {
			m, s := random(source, kind)
			if err := m.Check(); err != nil || m.Bytes() != s {
				t.Fatalf("%v: %x, not %x, %v", m, m.Bytes(), s, err)
			}
			if n, err := message.Parse(s); !same(m, n) || err != nil {
				t.Fatalf("%x: %v, not %v, %v", s, n, m, err)
			}
		}
	}
}

// P10.1: a message with a field less or more of any letter is none.
func TestCounts(t *testing.T) {
	source := rand.New(rand.NewSource(2))
	for _, kind := range sorted() {
		m, _ := random(source, kind)
		change := func(what string, f func(n *message.Msg)) {
			n := m
			f(&n)
			checkUnfit(t, message.Name(kind)+", "+what, n, api.ErrArg)
		}
		change("more U", func(n *message.Msg) { n.U = append(slices.Clone(m.U), 1) })
		change("more S", func(n *message.Msg) { n.S = append(slices.Clone(m.S), "0123456789abcdef") })
		change("more N", func(n *message.Msg) { n.N = append(slices.Clone(m.N), nil) })
		change("more B", func(n *message.Msg) { n.B = append(slices.Clone(m.B), false) })
		change("more of all", func(n *message.Msg) {
			*n = message.Msg{kind, make([]uint32, 20), make([]string, 20), make([][]string, 20), make([]bool, 20)}
		})
		if len(m.U) > 0 {
			change("less U", func(n *message.Msg) { n.U = m.U[1:] })
			change("no U", func(n *message.Msg) { n.U = nil })
		}
		if len(m.S) > 0 {
			change("less S", func(n *message.Msg) { n.S = m.S[1:] })
			change("no S", func(n *message.Msg) { n.S = nil })
		}
		if len(m.N) > 0 {
			change("less N", func(n *message.Msg) { n.N = m.N[1:] })
			change("no N", func(n *message.Msg) { n.N = nil })
		}
		if len(m.B) > 0 {
			change("less B", func(n *message.Msg) { n.B = m.B[1:] })
		}
	}
}

func kexinit() message.Msg {
	return message.Msg{Kind: 20, S: []string{"0123456789abcdef"}, N: make([][]string, 10), B: []bool{false}, U: []uint32{0}}
}

// P10.1: a cookie has 16 bytes, and the elements of name lists are names.
func TestUnfitFields(t *testing.T) {
	for n := range 40 {
		m := kexinit()
		m.S[0] = strings.Repeat("c", n)
		if n == 16 {
			if m.Check() != nil {
				t.Errorf("16 bytes: %v", m.Check())
			}
			continue
		}
		checkUnfit(t, "cookie", m, api.ErrArg)
	}
	m := kexinit()
	m.S[0] = strings.Repeat("c", 40000)
	checkUnfit(t, "long cookie", m, api.ErrArg)
	for list := range 10 {
		for _, name := range []string{"", "a,b", "a b", "a\x7f", "ä", strings.Repeat("n", 65)} {
			for at := range 3 {
				m := kexinit()
				m.N[list] = []string{"first", "second", "third"}
				if m.Check() != nil {
					t.Errorf("names: %v", m.Check())
				}
				m.N[list][at] = name
				checkUnfit(t, "name "+name, m, api.ErrArg)
			}
		}
	}
	checkUnfit(t, "one empty name", message.Msg{Kind: 51, N: [][]string{{""}}, B: []bool{true}}, api.ErrArg)
}

// names returns a list of n bytes with commas, of names of at most 64 bytes.
func names(n int) []string {
	var l []string
	for n > 65 {
		l, n = append(l, strings.Repeat("n", 63)), n-64
	}
	if n > 64 {
		return append(l, "n", strings.Repeat("n", n-2))
	}
	return append(l, strings.Repeat("n", n))
}

// P10.1: the greatest fields, and greater ones, of every kind.
func TestLimits(t *testing.T) {
	source := rand.New(rand.NewSource(3))
	for _, kind := range sorted() {
		letters := strings.NewReplacer("u", "", "b", "", "n", "").Replace(kinds[kind][1])
		for at := range letters {
			if letters[at] == 'c' {
				continue
			}
			m, _ := random(source, kind)
			for _, n := range []int{32767, 32768} {
				m.S[at] = strings.Repeat("x", n)
				if p, err := message.Parse(m.Bytes()); m.Check() != nil || !same(m, p) || err != nil {
					t.Errorf("%s with %d bytes: %v, %v", message.Name(kind), n, m.Check(), err)
				}
			}
			m.S[at] = strings.Repeat("x", 32769)
			checkUnfit(t, message.Name(kind), m, api.ErrBig)
			m.U = append(m.U, 1)
			checkUnfit(t, message.Name(kind)+" with more U", m, api.ErrArg)
		}
	}
	for list := range 10 {
		m := kexinit()
		m.N[list] = names(4096)
		if p, err := message.Parse(m.Bytes()); len(strings.Join(m.N[list], ",")) != 4096 || m.Check() != nil || !same(m, p) || err != nil {
			t.Errorf("4096 bytes of names: %v, %v", m.Check(), err)
		}
		for _, n := range []int{4097, 4161, 9999} {
			m.N[list] = names(n)
			checkUnfit(t, "names", m, api.ErrBig)
		}
		m.N[9-list] = []string{""}
		checkUnfit(t, "names, one of them empty", m, api.ErrArg)
	}
}

// P10.1: the errors of Parse, the first one that applies.
func TestParseErrors(t *testing.T) {
	big := strings.Repeat("x", 32769)
	tests := []struct {
		name, s string
		want    error
	}{
		{"nothing", "", api.ErrEnd},
		{"kind 0", "\x00", api.ErrKind},
		{"kind 7 and more", "\x07\x00\x00", api.ErrKind},
		{"kind 255", "\xff", api.ErrKind},
		{"kind 101", "\x65\x00\x00\x00\x01", api.ErrKind},
		{"newkeys with a byte", "\x15\x00", api.ErrForm},
		{"unimplemented with a byte", "\x03\x00\x00\x00\x01\x00", api.ErrForm},
		{"text too long", "\x02" + length(32769), api.ErrBig},
		{"text too long, all there", "\x02" + text(big), api.ErrBig},
		{"text too long with more", "\x02" + text(big) + "x", api.ErrBig},
		{"text too short", "\x02" + length(32768) + "x", api.ErrEnd},
		{"names that are none", "\x33" + text("a,") + "\x00", api.ErrForm},
		{"names too long", "\x33" + length(4097) + "\x00", api.ErrBig},
		{"names, then nothing", "\x33" + text("a,b"), api.ErrEnd},
		{"first error: end", "\x5a" + length(9) + "short", api.ErrEnd},
		{"first error: big, then end", "\x01\x00\x00\x00\x00" + length(99999), api.ErrBig},
		{"first error: form, then end", "\x33" + text(","), api.ErrForm},
		{"rest too long", "\x51" + big, api.ErrBig},
		{"rest too long by far", "\x51" + big + big, api.ErrBig},
		{"rest too long behind fields", "\x50" + text("x") + "\x01" + big, api.ErrBig},
		{"rest too long behind a text that is too long", "\x50" + text(big) + "\x01" + big, api.ErrBig},
		{"rest too long behind short fields", "\x5a" + length(40000-50) + big, api.ErrBig},
		{"cookie too short", "\x14" + "0123456789abcde", api.ErrEnd},
		{"kexinit of a cookie", "\x14" + "0123456789abcdef", api.ErrEnd},
	}
	for _, test := range tests {
		checkParse(t, test.name, test.s, test.want)
	}
}

// P10.1: encodings that are cut off anywhere, or have a byte more.
func TestCutOff(t *testing.T) {
	source := rand.New(rand.NewSource(4))
	for _, kind := range sorted() {
		for range 5 {
			m, s := random(source, kind)
			rest := strings.HasSuffix(kinds[kind][1], "r")
			least := len(s)
			if rest {
				least -= len(m.S[len(m.S)-1])
			}
			for n := range least {
				checkParse(t, message.Name(kind)+" cut off", s[:n], api.ErrEnd)
			}
			if !rest {
				checkParse(t, message.Name(kind)+" with a byte more", s+"\x00", api.ErrForm)
			}
		}
	}
}

// P10.2: bytes are the encoding of one message at most, up to a Bool.
func TestOneMessage(t *testing.T) {
	source := rand.New(rand.NewSource(5))
	parsed := 0
	for _, kind := range sorted() {
		for range 1500 {
			_, s := random(source, kind)
			b := []byte(s)
			for range 1 + source.Intn(3) {
				b[source.Intn(len(b))] = byte(source.Intn(256) * source.Intn(2))
			}
			m, err := message.Parse(string(b))
			if err != nil {
				if !zero(m) {
					t.Fatalf("%x: %v beside %v", b, m, err)
				}
				continue
			}
			parsed++
			if m.Check() != nil {
				t.Fatalf("%x: %v: %v", b, m, m.Check())
			}
			again := m.Bytes()
			if n, err := message.Parse(again); err != nil || !same(m, n) || len(again) != len(b) {
				t.Fatalf("%x: %v, again %x", b, m, again)
			}
			if len(m.B) == 0 && again != string(b) {
				t.Fatalf("%x: %v, again %x", b, m, again)
			}
		}
	}
	if parsed < 1000 {
		t.Errorf("only %d messages", parsed)
	}
}

// P10.1: every byte other than 0 is true.
func TestBoolBytes(t *testing.T) {
	for b := range 256 {
		m, err := message.Parse("\x33" + text("") + string([]byte{byte(b)}))
		if err != nil || !slices.Equal(m.B, []bool{b != 0}) {
			t.Errorf("%d: %v, %v", b, m.B, err)
		}
	}
}

// P10.1: a message stays as it is, and what Parse returns is its own.
func TestMemory(t *testing.T) {
	source := rand.New(rand.NewSource(6))
	for _, kind := range sorted() {
		m, s := random(source, kind)
		n, _ := message.Parse(s)
		m.Check()
		m.Bytes()
		m.Bytes()
		if !same(m, n) {
			t.Errorf("%s changed", message.Name(kind))
		}
		p, _ := message.Parse(s)
		for i := range p.U {
			p.U[i]++
		}
		for i := range p.S {
			p.S[i] += "x"
		}
		for i := range p.B {
			p.B[i] = !p.B[i]
		}
		for i := range p.N {
			p.N[i] = append(p.N[i][:0], "x", "y")
		}
		if q, _ := message.Parse(s); !same(q, n) {
			t.Errorf("%s: messages share memory", message.Name(kind))
		}
	}
}

// checkWrapped checks that an error is wrapped once, with its place.
func checkWrapped(t *testing.T, what string, err, want error, where string) {
	t.Helper()
	var f *api.Fault
	if !errors.As(err, &f) || f.Where != where || f.Err != want {
		t.Errorf("%s: %v, not %v in %s", what, err, want, where)
	}
}

// P10.1: the encodings of keys and signatures.
func TestBlobs(t *testing.T) {
	source := rand.New(rand.NewSource(7))
	for n := range 50 {
		var key [32]byte
		var sig [64]byte
		if n > 0 {
			source.Read(key[:])
			source.Read(sig[:])
		}
		s, g := message.KeyBlob(key), message.SignBlob(sig)
		if s != "\x00\x00\x00\x0bssh-ed25519\x00\x00\x00\x20"+string(key[:]) || g != "\x00\x00\x00\x0bssh-ed25519\x00\x00\x00\x40"+string(sig[:]) {
			t.Fatalf("%x, %x", s, g)
		}
		if k, err := message.BlobKey(s); k != key || err != nil {
			t.Fatalf("%x: %x, %v", s, k, err)
		}
		if x, err := message.BlobSign(g); x != sig || err != nil {
			t.Fatalf("%x: %x, %v", g, x, err)
		}
	}
}

// P10.1: bytes that are no key and no signature.
func TestBlobErrors(t *testing.T) {
	name := text("ssh-ed25519")
	bytes := strings.Repeat("k", 64)
	tests := []struct {
		name, s string
		want    error // nil: ErrKey or ErrSign
	}{
		{"nothing", "", api.ErrEnd},
		{"short length", "\x00\x00\x00", api.ErrEnd},
		{"length beyond all", "\x00\x00\x00\x05", api.ErrBig},
		{"length of all", "\x00\x00\x00\x04", api.ErrEnd},
		{"short name", "\x00\x00\x00\x0bssh-ed2551", api.ErrEnd},
		{"no second text", name, api.ErrEnd},
		{"second text beyond all", name + length(20), api.ErrBig},
		{"second text of all", name + length(19), api.ErrEnd},
		{"second text short", name + length(32) + bytes[:31], api.ErrEnd},
		{"a byte left", name + text(bytes[:32]) + "\x00", api.ErrForm},
		{"another name and a byte left", text("ssh-rsa") + text(bytes[:32]) + "\x00", api.ErrForm},
		{"another name", text("ssh-ed25518") + text(bytes[:32]), nil},
		{"a longer name", text("ssh-ed25519 ") + text(bytes), nil},
		{"no name", text("") + text(bytes[:32]), nil},
		{"both empty", text("") + text(""), nil},
		{"33 bytes", name + text(bytes[:33]), nil},
		{"31 bytes", name + text(bytes[:31]), nil},
		{"63 bytes", name + text(bytes[:63]), nil},
		{"65 bytes", name + text(bytes+"k"), nil},
		{"no bytes", name + text(""), nil},
		{"another name, 5 bytes", text("x") + text("01234"), nil},
	}
	check := func(what, s string, keyError, signError error) {
		t.Helper()
		if keyError != nil {
			key, err := message.BlobKey(s)
			checkWrapped(t, what, err, keyError, "key")
			if key != [32]byte{} {
				t.Errorf("%s: %x", what, key)
			}
		}
		if signError != nil {
			sig, err := message.BlobSign(s)
			checkWrapped(t, what, err, signError, "signature")
			if sig != [64]byte{} {
				t.Errorf("%s: %x", what, sig)
			}
		}
	}
	for _, test := range tests {
		if test.want != nil {
			check(test.name, test.s, test.want, test.want)
			continue
		}
		check(test.name, test.s, api.ErrKey, api.ErrSign)
	}
	check("a signature as a key", message.SignBlob([64]byte{1}), api.ErrKey, nil)
	check("a key as a signature", message.KeyBlob([32]byte{1}), nil, api.ErrSign)
}

// P10.1, P10.2: a Msg is made of these fields, in this order.
func TestMsgFields(t *testing.T) {
	m := message.Msg{94, []uint32{1}, []string{"s"}, nil, nil}
	p, err := message.Parse(m.Bytes())
	if err != nil || !reflect.DeepEqual(p, m) {
		t.Errorf("%v, %v", p, err)
	}
}
