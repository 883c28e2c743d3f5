package mux_test

import (
	"math"
	"slices"
	"strings"
	"testing"

	"speakeasy/api"
	"speakeasy/message"
	"speakeasy/mux"
)

// small returns a configuration whose limits are soon reached.
func small() mux.Config { return mux.Config{Channels: 4, Buffer: 20, Window: 10, Most: 4} }

// want compares the messages of a Flush with those that are expected.
func want(t *testing.T, m *mux.Mux, expected ...message.Msg) {
	t.Helper()
	got := encoded(t, m.Flush())
	if !slices.Equal(got, encoded(t, expected)) {
		t.Fatalf("%q, not %q", got, encoded(t, expected))
	}
}

// opened returns a Mux with a channel 0 that the other end asked for as its channel 7,
// with a window of 100 bytes and packets of at most 30 bytes.
func opened(t *testing.T, c mux.Config) *mux.Mux {
	t.Helper()
	m := mux.New(c)
	if l, err := m.Handle(say(90, numbers(7, 100, 30), "x", "")); len(l) != 1 || err != nil {
		t.Fatalf("%v, %v", l, err)
	}
	if err := m.Accept(0); err != nil {
		t.Fatal(err)
	}
	m.Flush()
	return m
}

// handled passes a message on, which must cause events of these kinds for channel 0.
func handled(t *testing.T, m *mux.Mux, x message.Msg, kinds ...int) {
	t.Helper()
	l, err := m.Handle(x)
	var got []int
	for _, e := range l {
		got = append(got, e.Kind)
		if e.Channel != 0 {
			t.Fatalf("%+v: %+v", x, e)
		}
	}
	if err != nil || !slices.Equal(got, kinds) {
		t.Fatalf("%+v: %v, %v", x, l, err)
	}
}

// refused passes a message on, which must be an error.
func refused(t *testing.T, m *mux.Mux, x message.Msg, no error) {
	t.Helper()
	if l, err := m.Handle(x); len(l) != 0 || err != no {
		t.Fatalf("%.200v: %v, %v, not %v", x, l, err, no)
	}
}

// P19.1: the document's example.
func TestExample(t *testing.T) {
	a, b := mux.New(small()), mux.New(mux.Config{Channels: 1, Buffer: 1, Window: 30, Most: 20})
	if n, err := a.Open("x", "rest"); n != 0 || err != nil {
		t.Fatalf("%d, %v", n, err)
	}
	first := a.Flush()
	if len(first) != 1 || first[0].Bytes() != say(90, numbers(0, 10, 4), "x", "rest").Bytes() {
		t.Fatalf("%v", first)
	}
	l, err := b.Handle(first[0])
	if len(l) != 1 || l[0] != (mux.Event{Kind: mux.Asked, Channel: 0, Word: "x", Text: "rest"}) || err != nil {
		t.Fatalf("%v, %v", l, err)
	}
	want(t, b)
	if err := b.Accept(0); err != nil {
		t.Fatal(err)
	}
	want(t, b, say(91, numbers(0, 0, 30, 20), ""))
	l, err = a.Handle(say(91, numbers(0, 0, 30, 20), ""))
	if len(l) != 1 || l[0] != (mux.Event{Kind: mux.Confirmed, Channel: 0}) || err != nil {
		t.Fatalf("%v, %v", l, err)
	}
	want(t, a)
}

// P19.1: the kinds of events.
func TestEventKinds(t *testing.T) {
	if l := []int{mux.Asked, mux.Confirmed, mux.Failed, mux.Came, mux.Ended, mux.Closed}; !slices.Equal(l, []int{1, 2, 3, 4, 5, 6}) {
		t.Errorf("%v", l)
	}
}

// P19.1: a new multiplexer has no channels and nothing to send.
func TestNew(t *testing.T) {
	m := mux.New(mux.Config{})
	want(t, m)
	if len(m.Channels()) != 0 {
		t.Errorf("%v", m.Channels())
	}
	for _, n := range []int{0, 1, -1, math.MinInt, math.MaxInt} {
		if out, in := m.Waits(n); out != 0 || in != 0 {
			t.Errorf("Waits(%d): %d, %d", n, out, in)
		}
	}
	other := mux.New(mux.Config{})
	if _, err := other.Open("", ""); err != nil || len(m.Channels()) != 0 {
		t.Errorf("%v: two multiplexers have channels in common", err)
	}
	want(t, m)
}

// P19.1, P19.3: the number of channels, whoever asks for them.
func TestChannelLimits(t *testing.T) {
	for _, n := range []int{math.MinInt, -1, 0, 1, 2, 3, 31, 32, 33, 64, math.MaxInt} {
		most := min(max(n, 1), 32)
		for _, asks := range []int{0, 1, 2} { // of the first ones, whether this end asks for them
			b := newBoth(t, mux.Config{Channels: n})
			for i := range most {
				if i%2 < asks {
					if got, err := b.open("x", ""); got != i || err != nil {
						t.Fatalf("channel %d of %d: %d, %v", i, n, got, err)
					}
				} else if l, err := b.handle(say(90, numbers(uint32(i), 1, 1), "x", "")); len(l) != 1 || err != nil || l[0].Channel != i {
					t.Fatalf("channel %d of %d: %v, %v", i, n, l, err)
				}
			}
			b.flush()
			if _, err := b.open("x", ""); err != api.ErrFull {
				t.Errorf("channel %d of %d: %v", most, n, err)
			}
			if l, err := b.handle(say(90, numbers(99, 1, 1), "x", "")); len(l) != 0 || err != nil {
				t.Errorf("channel %d of %d: %v, %v", most, n, l, err)
			}
			if len(b.mux.Channels()) != most {
				t.Errorf("%d of %d channels", len(b.mux.Channels()), n)
			}
			want(t, b.mux, say(92, numbers(99, 4), "", ""))
		}
	}
}

// P19.1, P19.3: the bytes queued for sending.
func TestBufferLimits(t *testing.T) {
	for _, n := range []int{math.MinInt, -1, 0, 1, 2, 3, 1000, 1<<24 - 1, 1 << 24, 1<<24 + 1, 1 << 30, math.MaxInt} {
		most := min(max(n, 1), 1<<24)
		m := opened(t, mux.Config{Buffer: n})
		if err := m.Write(0, strings.Repeat("a", most+1)); err != api.ErrQuota {
			t.Errorf("%d bytes of at most %d: %v", most+1, n, err)
		}
		if out, _ := m.Waits(0); out != 0 {
			t.Errorf("%d bytes wait after an error", out)
		}
		if err := m.Write(0, strings.Repeat("a", most)); err != nil {
			t.Errorf("%d bytes of at most %d: %v", most, n, err)
		}
		if m.Write(0, "a") != api.ErrQuota || m.Write(0, "") != nil {
			t.Errorf("one byte more than %d", n)
		}
		if out, in := m.Waits(0); out != most || in != 0 {
			t.Errorf("%d and %d bytes wait", out, in)
		}
		m.Flush()
		if err := m.Write(0, strings.Repeat("a", min(most, 100)+1)); err != api.ErrQuota {
			t.Errorf("%v: more than was sent", err)
		}
		if err := m.Write(0, strings.Repeat("a", min(most, 100))); err != nil {
			t.Errorf("%v: as much as was sent", err)
		}
	}
}

// P19.1, P19.3: the windows and packet sizes that this end announces and permits.
func TestWindowLimits(t *testing.T) {
	for _, n := range []uint32{0, 1, 2, 31999, 32000, 32001, 1<<24 - 1, 1 << 24, 1<<24 + 1, 1 << 31, math.MaxUint32} {
		for _, p := range []uint32{0, 1, 31999, 32000, 32001, 1 << 16, 1 << 31, math.MaxUint32} {
			window, most := min(max(n, 1), 1<<24), min(max(p, 1), 32000)
			m := mux.New(mux.Config{Channels: 2, Window: n, Most: p})
			if _, err := m.Open("x", "y"); err != nil {
				t.Fatal(err)
			}
			handled(t, m, say(91, numbers(0, 7, 1, 1), ""), mux.Confirmed)
			want(t, m, say(90, numbers(0, window, most), "x", "y"))
			if _, err := m.Handle(say(90, numbers(5, 1, 1), "z", "")); err != nil {
				t.Fatal(err)
			}
			if err := m.Accept(1); err != nil {
				t.Fatal(err)
			}
			want(t, m, say(91, numbers(5, 1, window, most), ""))
			fill(t, m, window, most)
		}
	}
}

// fill sends as much to channel 0 as its window permits.
func fill(t *testing.T, m *mux.Mux, window, most uint32) {
	t.Helper()
	left := int(window)
	if most == 1 { // too many packets
		left = min(left, 1000)
	}
	refused(t, m, say(94, numbers(0), strings.Repeat("a", int(most)+1)), api.ErrWindow)
	refused(t, m, say(95, numbers(0, 1), strings.Repeat("a", int(most)+1)), api.ErrWindow)
	data := strings.Repeat("a", int(most))
	for left > 0 {
		n := min(left, int(most))
		handled(t, m, say(94, numbers(0), data[:n]), mux.Came)
		left -= n
	}
	if _, in := m.Waits(0); most > 1 {
		if in != int(window) {
			t.Errorf("%d bytes wait, not %d", in, window)
		}
		refused(t, m, say(94, numbers(0), "a"), api.ErrWindow)
		refused(t, m, say(95, numbers(0, 1), "a"), api.ErrWindow)
		handled(t, m, say(94, numbers(0), ""), mux.Came)
	}
}

// P19.1: the other end's window and packet size, of which at most 32000 bytes are used.
func TestOtherLimits(t *testing.T) {
	for _, window := range []uint32{0, 1, 2, 32000, 32001, 70000, 1 << 31, math.MaxUint32} {
		for _, most := range []uint32{0, 1, 2, 31999, 32000, 32001, 40000, 1 << 31, math.MaxUint32} {
			for _, asks := range []bool{true, false} {
				b := newBoth(t, mux.Config{Buffer: 1 << 20})
				if asks {
					b.open("x", "")
					b.handle(say(91, numbers(0, 9, window, most), ""))
				} else {
					b.handle(say(90, numbers(9, window, most), "x", ""))
					b.accept(0)
				}
				b.flush()
				size := 70001
				if most <= 2 {
					size = 100
				}
				b.write(0, strings.Repeat("abcdefg", size/7+1)[:size])
				greatest := 0
				for _, m := range b.flush() {
					greatest = max(greatest, len(m.S[0]))
				}
				if limit := int(min(max(most, 1), 32000, window, uint32(size))); window > 0 && greatest > limit {
					t.Errorf("%d bytes in a message, not %d", greatest, limit)
				}
			}
		}
	}
}

// P19.1: what Open does not accept; too much comes before too many.
func TestOpenErrors(t *testing.T) {
	for _, full := range []bool{false, true} {
		for _, kind := range []int{0, 1, 63, 64, 65, 1000} {
			for _, rest := range []int{0, 1, 1023, 1024, 1025, 40000} {
				b := newBoth(t, mux.Config{Channels: 1})
				if full {
					b.open("", "")
				}
				n, err := b.open(strings.Repeat("k", kind), strings.Repeat("r", rest))
				switch {
				case kind > 64 || rest > 1024:
					if n != 0 || err != api.ErrBig {
						t.Errorf("%d and %d bytes: %d, %v", kind, rest, n, err)
					}
				case full:
					if n != 0 || err != api.ErrFull {
						t.Errorf("%d and %d bytes: %d, %v", kind, rest, n, err)
					}
				case err != nil:
					t.Errorf("%d and %d bytes: %v", kind, rest, err)
				}
				b.flush()
			}
		}
	}
}

// P19.1: types and texts of any bytes are sent as they are.
func TestBytes(t *testing.T) {
	var all strings.Builder
	for b := range 256 {
		all.WriteByte(byte(b))
	}
	b := newBoth(t, mux.Config{Channels: 9, Buffer: 1000, Window: 1000, Most: 1000})
	b.open(all.String()[:64], all.String())
	b.open(all.String()[192:], all.String())
	b.handle(say(90, numbers(1, 1000, 1000), all.String(), all.String()))
	b.handle(say(90, numbers(2, 1000, 1000), "", ""))
	b.reject(2, math.MaxUint32, all.String())
	b.accept(3)
	b.write(3, all.String())
	b.flush()
	b.handle(say(94, numbers(3), all.String()))
	if s, err := b.read(3, 1000); s != all.String() || err != nil {
		t.Errorf("%q, %v", s, err)
	}
}

// P19.1: of a rejection's text, the first 256 bytes are sent.
func TestRejectText(t *testing.T) {
	for _, n := range []int{0, 1, 255, 256, 257, 1000, 40000} {
		for _, letter := range []string{"a", "é", "\xff"} {
			text := strings.Repeat(letter, n)
			m := mux.New(small())
			handled(t, m, say(90, numbers(3, 0, 0), "x", ""), mux.Asked)
			if err := m.Reject(0, 17, text); err != nil || len(m.Channels()) != 0 {
				t.Errorf("%v: %v", err, m.Channels())
			}
			want(t, m, say(92, numbers(3, 17), text[:min(len(text), 256)], ""))
		}
	}
}

// P19.1: a new channel has the smallest free number.
func TestNumbers(t *testing.T) {
	b := newBoth(t, mux.Config{Channels: 5})
	for range 5 {
		b.handle(say(90, numbers(6, 5, 5), "x", ""))
	}
	b.reject(3, 0, "")
	b.reject(1, 0, "")
	b.accept(0)
	b.flush()
	for _, n := range []int{1, 3} {
		if got, err := b.open("x", ""); got != n || err != nil {
			t.Errorf("%d, %v, not %d", got, err, n)
		}
	}
	b.handle(say(92, numbers(1, 1), "", ""))
	b.close(0)
	if got, err := b.open("x", ""); got != 1 || err != nil {
		t.Errorf("%d, %v", got, err)
	}
	b.flush() // sends the close of 0
	if _, err := b.open("x", ""); err != api.ErrFull {
		t.Errorf("a channel that one end has closed is free: %v", err)
	}
	b.handle(say(97, numbers(0)))
	if got, err := b.open("x", ""); got != 0 || err != nil {
		t.Errorf("%d, %v", got, err)
	}
	if l := b.mux.Channels(); !slices.Equal(l, []int{0, 1, 2, 3, 4}) {
		t.Errorf("%v", l)
	}
}

// P19.1: a Read takes no more than there is, and none for a negative number.
func TestRead(t *testing.T) {
	m := opened(t, mux.Config{Window: 20, Most: 20})
	handled(t, m, say(94, numbers(0), "abcdef"), mux.Came)
	for _, x := range []struct {
		most int
		want string
	}{{0, ""}, {-1, ""}, {math.MinInt, ""}, {1, "a"}, {2, "bc"}, {math.MaxInt, "def"}, {1, ""}, {0, ""}} {
		if s, err := m.Read(0, x.most); s != x.want || err != nil {
			t.Errorf("Read(0, %d): %q, %v", x.most, s, err)
		}
	}
}

// P19.1: the calls that need a channel in some state.
func TestStates(t *testing.T) {
	for n, no := range map[int]error{0: api.ErrState, 1: api.ErrState, 2: nil, 3: api.ErrNone, 4: api.ErrNone, -1: api.ErrNone, math.MinInt: api.ErrNone, math.MaxInt: api.ErrNone, 1 << 32: api.ErrNone} {
		for what, call := range map[string]func(*mux.Mux) error{
			"Write": func(m *mux.Mux) error { return m.Write(n, "a") },
			"Read":  func(m *mux.Mux) error { s, err := m.Read(n, 1); return errorOf(t, s, err) },
			"EOF":   func(m *mux.Mux) error { return m.EOF(n) },
			"Close": func(m *mux.Mux) error { return m.Close(n) },
		} {
			if err := call(three(t)); err != no {
				t.Errorf("%s(%d): %v, not %v", what, n, err, no)
			}
		}
		if n == 0 {
			no = nil
		} else if no == nil {
			no = api.ErrState
		}
		for what, call := range map[string]func(*mux.Mux) error{
			"Accept": func(m *mux.Mux) error { return m.Accept(n) },
			"Reject": func(m *mux.Mux) error { return m.Reject(n, 1, "a") },
		} {
			m := three(t)
			if err := call(m); err != no {
				t.Errorf("%s(%d): %v, not %v", what, n, err, no)
			}
			if no != nil {
				want(t, m)
				if len(m.Channels()) != 3 {
					t.Errorf("%s(%d): %v", what, n, m.Channels())
				}
			}
		}
	}
}

func errorOf(t *testing.T, s string, err error) error {
	if s != "" {
		t.Errorf("%q and %v", s, err)
	}
	return err
}

// three returns a Mux with an asked, an asking and an open channel.
func three(t *testing.T) *mux.Mux {
	t.Helper()
	m := mux.New(small())
	handled(t, m, say(90, numbers(7, 100, 30), "x", ""), mux.Asked)
	if _, err := m.Open("x", ""); err != nil {
		t.Fatal(err)
	}
	if _, err := m.Handle(say(90, numbers(8, 100, 30), "x", "")); err != nil {
		t.Fatal(err)
	}
	if err := m.Accept(2); err != nil {
		t.Fatal(err)
	}
	m.Flush()
	return m
}

// P19.1: what remains possible after eof and close were requested, and after they
// were received.
func TestEnds(t *testing.T) {
	type result struct{ write, read, eof, close error }
	no, yes := api.ErrState, error(nil)
	for _, x := range []struct {
		name string
		want result
		do   func(*mux.Mux)
	}{
		{"open", result{yes, yes, yes, yes}, func(m *mux.Mux) {}},
		{"eof", result{no, yes, no, yes}, func(m *mux.Mux) { m.EOF(0) }},
		{"eof sent", result{no, yes, no, yes}, func(m *mux.Mux) { m.EOF(0); m.Flush() }},
		{"eof received", result{yes, yes, yes, yes}, func(m *mux.Mux) { m.Handle(say(96, numbers(0))) }},
		{"close", result{no, yes, no, no}, func(m *mux.Mux) { m.Close(0) }},
		{"close sent", result{no, yes, no, no}, func(m *mux.Mux) { m.Close(0); m.Flush() }},
		{"eof and close", result{no, yes, no, no}, func(m *mux.Mux) { m.EOF(0); m.Close(0) }},
		{"close received", result{no, yes, no, no}, func(m *mux.Mux) { m.Handle(say(97, numbers(0))) }},
		{"eof and close received", result{no, yes, no, no}, func(m *mux.Mux) { m.Handle(say(96, numbers(0))); m.Handle(say(97, numbers(0))) }},
		{"both", result{api.ErrNone, api.ErrNone, api.ErrNone, api.ErrNone}, func(m *mux.Mux) { m.Handle(say(97, numbers(0))); m.Flush() }},
		{"both again", result{api.ErrNone, api.ErrNone, api.ErrNone, api.ErrNone}, func(m *mux.Mux) { m.Close(0); m.Flush(); m.Handle(say(97, numbers(0))) }},
	} {
		made := func() *mux.Mux {
			m := opened(t, small())
			handled(t, m, say(94, numbers(0), "abcd"), mux.Came)
			x.do(m)
			return m
		}
		_, err := made().Read(0, 1)
		got := result{made().Write(0, "a"), err, made().EOF(0), made().Close(0)}
		if got != x.want {
			t.Errorf("%s: %v, not %v", x.name, got, x.want)
		}
	}
}

// P19.1: bytes that were received can be read until the channel is removed.
func TestReadLate(t *testing.T) {
	m := opened(t, small())
	handled(t, m, say(94, numbers(0), "abcd"), mux.Came)
	handled(t, m, say(96, numbers(0)), mux.Ended)
	handled(t, m, say(97, numbers(0)), mux.Closed)
	for _, part := range []string{"abc", "d", ""} {
		if s, err := m.Read(0, 3); s != part || err != nil {
			t.Errorf("%q, %v", s, err)
		}
	}
	want(t, m, say(97, numbers(7)))
	if s, err := m.Read(0, 3); s != "" || err != api.ErrNone {
		t.Errorf("%q, %v", s, err)
	}
}
