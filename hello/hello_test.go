package hello_test

import (
	"fmt"
	"math/rand"
	"regexp"
	"strings"
	"testing"

	"speakeasy/api"
	"speakeasy/hello"
)

func x(n int) string { return strings.Repeat("x", n) }

// P11.1: the line of every software version, and no line for other strings.
func TestLine(t *testing.T) {
	for _, s := range []string{"x", "v1", "OpenSSH_9.9", "!\"#$%&'()*+,./~", x(64)} {
		if line, err := hello.Line(s); line != "SSH-2.0-"+s+"\r\n" || err != nil {
			t.Errorf("%q: %q, %v", s, line, err)
		}
	}
	for _, s := range []string{"", "-", "a-b", "-a", "a-", "a b", " a", "a ", "a\r\n", "a\x00", "é", x(65), x(1000)} {
		if line, err := hello.Line(s); line != "" || err != api.ErrArg {
			t.Errorf("%q: %q, %v", s, line, err)
		}
	}
}

// P11.1: every byte at the start, inside and at the end of a software version, in
// the line that is sent and in the one received.
func TestSoftwareBytes(t *testing.T) {
	for b := range 256 {
		valid := 33 <= b && b <= 126 && b != '-'
		for _, s := range []string{string([]byte{byte(b)}), string([]byte{'x', byte(b), 'x'}), x(63) + string([]byte{byte(b)})} {
			if line, err := hello.Line(s); (err == nil) != valid || (line != "") != valid {
				t.Errorf("%q: %q, %v", s, line, err)
			}
			received := "SSH-2.0-" + s + "\r\nab"
			check(t, true, received, expected(true, received))
			check(t, false, received, expected(false, received))
		}
	}
}

// state is what a reader is after all bytes received so far: the rest is what
// followed the version line, and until that has come peer is empty.
type state struct {
	peer, rest string
	err        error
}

var version = regexp.MustCompile(`(?s)^SSH-(2\.0|1\.99)-[!-,.-~]{1,64}( .*)?$`)

// expected is the state after s, from the document's list of errors.
func expected(client bool, s string) state {
	for ignored := 0; ; ignored++ {
		line, rest, ended := strings.Cut(s, "\n")
		if len(s)-len(rest) > 255 || !ended && len(line) == 255 {
			return state{err: api.ErrBig}
		}
		if !ended {
			return state{}
		}
		line = strings.TrimSuffix(line, "\r")
		if strings.Contains(line, "\x00") {
			return state{err: api.ErrForm}
		}
		if version.MatchString(line) {
			return state{peer: line, rest: rest}
		}
		if strings.HasPrefix(line, "SSH-") || !client || ignored == 16 {
			return state{err: api.ErrVersion}
		}
		s = rest
	}
}

// checkState compares a reader, and all that its calls returned, with a state.
func checkState(t *testing.T, what string, h *hello.Hello, rest string, err error, want state) {
	t.Helper()
	if rest != want.rest || err != want.err || h.Peer() != want.peer || h.Done() != (want.peer != "") {
		t.Errorf("%s: rest %q, error %v, peer %q, done %v; not %q, %v, %q", what, rest, err, h.Peer(), h.Done(), want.rest, want.err, want.peer)
	}
}

// check feeds s at once, and whatever comes behind an error or a version line.
func check(t *testing.T, client bool, s string, want state) {
	t.Helper()
	what := fmt.Sprintf("client %v: %.90q", client, s)
	h := hello.New(client)
	checkState(t, what+" (nothing)", h, "", nil, state{})
	rest, err := h.Feed(s)
	checkState(t, what, h, rest, err, want)
	if want.err == nil && want.peer == "" {
		return
	}
	for _, more := range []string{"", "more", "SSH-2.0-b\r\n", "\x00\n", x(255), "\n"} {
		rest, err := h.Feed(more)
		after := want
		after.rest = more
		if want.err != nil {
			after.rest = ""
		}
		checkState(t, what+" (more)", h, rest, err, after)
	}
}

// P11.1: version lines, which are the same for a client and a server.
func TestVersion(t *testing.T) {
	tests := []struct {
		s    string
		want state
	}{
		{"", state{}},
		{"SSH-2.0-x\r\nab", state{peer: "SSH-2.0-x", rest: "ab"}},
		{"SSH-2.0-x\r\n", state{peer: "SSH-2.0-x"}},
		{"SSH-2.0-x\n", state{peer: "SSH-2.0-x"}},
		{"SSH-2.0-x\nSSH-2.0-y\n", state{peer: "SSH-2.0-x", rest: "SSH-2.0-y\n"}},
		{"SSH-2.0-x\n\x00" + x(300), state{peer: "SSH-2.0-x", rest: "\x00" + x(300)}},
		{"SSH-1.99-x\r\n\n", state{peer: "SSH-1.99-x", rest: "\n"}},
		{"SSH-2.0-x y-z\x80\t \r\n", state{peer: "SSH-2.0-x y-z\x80\t "}},
		{"SSH-2.0-x \r\n", state{peer: "SSH-2.0-x "}},
		{"SSH-2.0-x \r\r\n", state{peer: "SSH-2.0-x \r"}},
		{"SSH-2.0-x a\rb\r\n", state{peer: "SSH-2.0-x a\rb"}},
		{"SSH-2.0-" + x(64) + "\n", state{peer: "SSH-2.0-" + x(64)}},
		{"SSH-2.0-" + x(64) + " c\n", state{peer: "SSH-2.0-" + x(64) + " c"}},
		{"SSH-2.0-" + x(65) + "\n", state{err: api.ErrVersion}},
		{"SSH-2.0-" + x(65) + " c\n", state{err: api.ErrVersion}},
		{"SSH-2.0-\r\n", state{err: api.ErrVersion}},
		{"SSH-2.0- x\r\n", state{err: api.ErrVersion}},
		{"SSH-2.0-x-y\r\n", state{err: api.ErrVersion}},
		{"SSH-2.0--x\r\n", state{err: api.ErrVersion}},
		{"SSH-2.0-x\ty\r\n", state{err: api.ErrVersion}},
		{"SSH-2.0-x\r\r\n", state{err: api.ErrVersion}},
		{"SSH-2.0-x\r y\r\n", state{err: api.ErrVersion}},
		{"SSH-2.0\r\n", state{err: api.ErrVersion}},
		{"SSH-2.0 -x\r\n", state{err: api.ErrVersion}},
		{"SSH-2.1-x\r\n", state{err: api.ErrVersion}},
		{"SSH-2.00-x\r\n", state{err: api.ErrVersion}},
		{"SSH-1.99\r\n", state{err: api.ErrVersion}},
		{"SSH-1.99-\r\n", state{err: api.ErrVersion}},
		{"SSH-1.9-x\r\n", state{err: api.ErrVersion}},
		{"SSH-1.5-x\r\n", state{err: api.ErrVersion}},
		{"SSH-3.0-x\r\n", state{err: api.ErrVersion}},
		{"SSH--x\r\n", state{err: api.ErrVersion}},
		{"SSH-\r\n", state{err: api.ErrVersion}},
		{"SSH-\nSSH-2.0-x\n", state{err: api.ErrVersion}},
		{"SSH-2.0-x", state{}},
		{"SSH-2.0-x\r", state{}},
		{"SSH-9", state{}},
	}
	for _, test := range tests {
		check(t, true, test.s, test.want)
		check(t, false, test.s, test.want)
	}
}

// P11.1: lines before the version line, which only a client ignores.
func TestOtherLines(t *testing.T) {
	end := "SSH-2.0-x\r\nab"
	for _, s := range []string{"\n", "\r\n", "\r\r\n", " \n", "welcome\r\n", "SSH\n", "ssh-2.0-x\n", " SSH-2.0-x\n", "S\n", "a SSH-2.0-x\n", "\rSSH-2.0-x\n", "\xff\x01\n"} {
		check(t, true, s, state{})
		check(t, false, s, state{err: api.ErrVersion})
		check(t, false, s+end, state{err: api.ErrVersion})
		for n := range 16 {
			check(t, true, strings.Repeat(s, n+1), state{})
			check(t, true, strings.Repeat(s, n+1)+end, state{peer: "SSH-2.0-x", rest: "ab"})
		}
		check(t, true, strings.Repeat(s, 17), state{err: api.ErrVersion})
		check(t, true, strings.Repeat(s, 17)+end, state{err: api.ErrVersion})
		check(t, true, strings.Repeat(s, 16)+"more", state{})
	}
	check(t, true, "a\nb\n\nSSH-1.5-x\n", state{err: api.ErrVersion})
	check(t, true, strings.Repeat("a\n", 16)+"SSH-1.5-x\n", state{err: api.ErrVersion})
}

// P11.1: the longest lines, and those that are longer by a byte. The bytes of a
// line that is too long matter only up to the 255th.
func TestLongLines(t *testing.T) {
	peer := "SSH-2.0-x " + x(243)
	for _, client := range []bool{true, false} {
		check(t, client, peer+"\r\nab", state{peer: peer, rest: "ab"})
		check(t, client, peer+"x\nab", state{peer: peer + "x", rest: "ab"})
		check(t, client, peer+"x\r\nab", state{err: api.ErrBig})
		check(t, client, peer+"xx\nab", state{err: api.ErrBig})
		check(t, client, peer+"x", state{})
		check(t, client, peer+"\r", state{})
		check(t, client, peer+"xx", state{err: api.ErrBig})
		check(t, client, peer+"x\r", state{err: api.ErrBig})
		check(t, client, x(254), state{})
		check(t, client, x(255), state{err: api.ErrBig})
		check(t, client, x(255)+"\n", state{err: api.ErrBig})
		check(t, client, x(100000), state{err: api.ErrBig})
		check(t, client, x(100000)+"\nSSH-2.0-x\n", state{err: api.ErrBig})
	}
	check(t, true, x(254)+"\n"+peer+"\r\nab", state{peer: peer, rest: "ab"})
	check(t, true, x(253)+"\r\n"+x(254), state{})
	check(t, true, strings.Repeat(x(254)+"\n", 16)+peer+"\r\nab", state{peer: peer, rest: "ab"})
	check(t, true, x(254)+"\n"+x(255), state{err: api.ErrBig})
	check(t, true, x(254)+"\n"+x(255)+"\n", state{err: api.ErrBig})
	check(t, false, x(254)+"\n", state{err: api.ErrVersion})
	check(t, false, x(254)+"\n"+x(255), state{err: api.ErrVersion})
}

// P11.1: a zero byte is an error at the end of its line, and the order of errors.
func TestZeroBytes(t *testing.T) {
	for _, client := range []bool{true, false} {
		for _, s := range []string{"\x00", "a\x00", "SSH-2.0-x\x00", "SSH-2.0-x \x00", "SSH-1.5-x\x00", "SSH-\x00", "\x00SSH-2.0-x", "\x00\r", x(253) + "\x00"} {
			check(t, client, s, state{})
			check(t, client, s+"\n", state{err: api.ErrForm})
			check(t, client, s+"\nSSH-2.0-x\n", state{err: api.ErrForm})
		}
		check(t, client, x(254)+"\x00", state{err: api.ErrBig})
		check(t, client, "\x00"+x(254), state{err: api.ErrBig})
		check(t, client, "\x00"+x(254)+"\n", state{err: api.ErrBig})
		check(t, client, "SSH-1.5-"+x(250)+"\n", state{err: api.ErrBig})
	}
	many := strings.Repeat("a\n", 16)
	check(t, true, many+"\x00\n", state{err: api.ErrForm})
	check(t, true, many+"\n\x00\n", state{err: api.ErrVersion})
	check(t, true, many+x(255), state{err: api.ErrBig})
	check(t, true, "\x00\n"+x(255), state{err: api.ErrForm})
	check(t, false, "\n\x00\n", state{err: api.ErrVersion})
}

// P11.1: readers do not share anything.
func TestTwoReaders(t *testing.T) {
	a, b := hello.New(true), hello.New(true)
	a.Feed("SSH-2.0")
	b.Feed("\nSSH-1.5")
	if _, err := b.Feed("-b\n"); err != api.ErrVersion {
		t.Errorf("error %v", err)
	}
	rest, err := a.Feed("-a\nrest")
	checkState(t, "the other one", a, rest, err, state{peer: "SSH-2.0-a", rest: "rest"})
}

// randomStream returns lines and parts of lines; each stream prefers its own kinds.
func randomStream(source *rand.Rand) string {
	pieces := []string{"\n", "\r\n", "\n", "a\n", "welcome\r\n", "\r", "x", " ", "SSH-2.0-", "SSH-1.99-", "SSH-2.0-x", "\x00", "-", "SSH-2.0-x y\r\n", "SSH-1.5-x\n", x(253), x(62), "\xff"}
	preferred := pieces[:1+source.Intn(len(pieces))]
	s := ""
	for range source.Intn(40) {
		s += preferred[source.Intn(len(preferred))]
	}
	return s + pieces[source.Intn(len(pieces))]
}

// feedParts feeds s in parts whose ends are given, and compares the reader after
// each part with what is expected after all bytes so far.
func feedParts(t *testing.T, client bool, s string, ends ...int) state {
	t.Helper()
	h, all, start := hello.New(client), "", 0
	for _, end := range append(ends, len(s)) {
		rest, err := h.Feed(s[start:end])
		all, start = all+rest, end
		checkState(t, fmt.Sprintf("client %v: %q up to %d", client, s, end), h, all, err, expected(client, s[:end]))
		if t.Failed() {
			t.FailNow()
		}
	}
	return expected(client, s)
}

// P11.2: every division of a stream into two parts, and into single bytes, where
// parts may be empty.
func TestDivisions(t *testing.T) {
	source := rand.New(rand.NewSource(1))
	seen := map[error]int{}
	for n := range 600 {
		s := randomStream(source)
		single := []int{0}
		for i := range len(s) {
			single = append(single, i, i+1)
			feedParts(t, n%2 == 0, s, i)
		}
		end := feedParts(t, n%2 == 0, s, single...)
		seen[end.err]++
		if end.peer != "" {
			seen[nil] += 1000
		}
	}
	for _, err := range []error{api.ErrBig, api.ErrForm, api.ErrVersion} {
		if seen[err] < 10 {
			t.Errorf("only %d times %v", seen[err], err)
		}
	}
	if seen[nil] < 10*1000 {
		t.Error("few version lines")
	}
}

// P11.2: random divisions of streams with many lines.
func TestRandomDivisions(t *testing.T) {
	source := rand.New(rand.NewSource(2))
	for n := range 3000 {
		s := strings.Repeat("line\r\n", source.Intn(18)) + randomStream(source)
		var ends []int
		for end := 0; end < len(s); end = min(len(s), end+source.Intn(60)) {
			ends = append(ends, end)
		}
		feedParts(t, n%3 != 0, s, ends...)
	}
}
