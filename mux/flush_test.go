package mux_test

import (
	"strings"
	"testing"

	"speakeasy/api"
	"speakeasy/message"
	"speakeasy/mux"
)

// P19.1: messages that were caused come first, in their order, then those of the
// channels by ascending number.
func TestFlushOrder(t *testing.T) {
	m := mux.New(mux.Config{Channels: 12, Buffer: 20, Window: 10, Most: 4})
	for i := range 11 {
		if _, err := m.Handle(say(90, numbers(uint32(100-i), 100, 3), "x", "")); err != nil {
			t.Fatal(err)
		}
	}
	var caused, later []message.Msg
	for i := range 11 { // in another order
		n := (i*7 + 3) % 11
		if err := m.Accept(n); err != nil {
			t.Fatal(err)
		}
		caused = append(caused, say(91, numbers(uint32(100-n), uint32(n), 10, 4), ""))
		if n%2 == 0 {
			x := message.Msg{Kind: 98, U: numbers(uint32(n)), S: []string{"env", ""}, B: []bool{true}}
			if l, err := m.Handle(x); len(l) != 0 || err != nil {
				t.Fatalf("%v, %v", l, err)
			}
			caused = append(caused, say(100, numbers(uint32(100-n))))
		}
		if m.Write(n, "abcd") != nil || m.EOF(n) != nil || m.Close(n) != nil {
			t.Fatalf("channel %d", n)
		}
	}
	m.Open("y", "z")
	caused = append(caused, say(90, numbers(11, 10, 4), "y", "z"))
	for n := range uint32(11) {
		later = append(later, say(94, numbers(100-n), "abc"), say(94, numbers(100-n), "d"), say(96, numbers(100-n)), say(97, numbers(100-n)))
	}
	want(t, m, append(caused, later...)...)
	want(t, m)
}

// P19.1: for one channel, an adjust comes first, then data, eof and close.
func TestFlushParts(t *testing.T) {
	m := opened(t, small())
	handled(t, m, say(94, numbers(0), "abcd"), mux.Came)
	handled(t, m, say(94, numbers(0), "efgh"), mux.Came)
	m.Read(0, 7)
	m.Write(0, "abc")
	m.Write(0, "de")
	want(t, m, say(93, numbers(7, 7)), say(94, numbers(7), "abcde"))
	want(t, m)
	m.Write(0, "f")
	m.EOF(0)
	want(t, m, say(94, numbers(7), "f"), say(96, numbers(7)))
	want(t, m)
	m.Close(0)
	want(t, m, say(97, numbers(7)))
	want(t, m)
	handled(t, m, say(97, numbers(0)), mux.Closed)
	want(t, m)
}

// P19.1: an eof and a close wait until all bytes before them are sent.
func TestFlushWaits(t *testing.T) {
	m := opened(t, mux.Config{Buffer: 300})
	m.Write(0, strings.Repeat("a", 105))
	m.EOF(0)
	m.Close(0)
	thirty := say(94, numbers(7), strings.Repeat("a", 30))
	want(t, m, thirty, thirty, thirty, say(94, numbers(7), strings.Repeat("a", 10)))
	want(t, m)
	handled(t, m, say(93, numbers(0, 4)))
	want(t, m, say(94, numbers(7), "aaaa"))
	handled(t, m, say(93, numbers(0, 0)))
	want(t, m)
	handled(t, m, say(93, numbers(0, 1)))
	want(t, m, say(94, numbers(7), "a"), say(96, numbers(7)), say(97, numbers(7)))
	want(t, m)
}

// P19.1: only open channels send more than what was caused.
func TestFlushStates(t *testing.T) {
	m := three(t)
	for n, no := range []error{api.ErrState, api.ErrState, nil} {
		if err := m.Write(n, "a"); err != no {
			t.Errorf("Write(%d): %v", n, err)
		}
		m.Close(n)
	}
	want(t, m, say(94, numbers(8), "a"), say(97, numbers(8)))
	want(t, m)
}

// P19.1: bytes read or skipped are returned to the sender as soon as they are half of
// the window, rounded up.
func TestFlushAdjust(t *testing.T) {
	for _, window := range []uint32{1, 2, 3, 9, 10, 11} {
		m := opened(t, mux.Config{Window: window, Most: 100})
		half := (window + 1) / 2
		handled(t, m, say(94, numbers(0), strings.Repeat("a", int(window))), mux.Came)
		want(t, m)
		if half > 1 {
			m.Read(0, int(half)-1)
			want(t, m)
		}
		m.Read(0, 1)
		want(t, m, say(93, numbers(7, half)))
		want(t, m)
		refused(t, m, say(94, numbers(0), strings.Repeat("a", int(half)+1)), api.ErrWindow)
		handled(t, m, say(95, numbers(0, 1), strings.Repeat("a", int(half))))
		want(t, m, say(93, numbers(7, half)))
		if _, in := m.Waits(0); in != int(window-half) {
			t.Errorf("%d bytes wait", in)
		}
	}
}

// P19.1: no adjust is sent after a close, whichever end closed.
func TestFlushNoAdjust(t *testing.T) {
	m := opened(t, small())
	handled(t, m, say(94, numbers(0), "abcd"), mux.Came)
	handled(t, m, say(95, numbers(0, 1), "abcd"))
	m.Read(0, 4)
	handled(t, m, say(97, numbers(0)), mux.Closed)
	want(t, m, say(97, numbers(7)))

	m = opened(t, small())
	m.Close(0)
	want(t, m, say(97, numbers(7)))
	handled(t, m, say(94, numbers(0), "abcd"), mux.Came)
	handled(t, m, say(95, numbers(0, 1), "abcd"))
	m.Read(0, 4)
	want(t, m)
	refused(t, m, say(94, numbers(0), "abc"), api.ErrWindow)

	m = opened(t, small())
	handled(t, m, say(95, numbers(0, 1), "abcd"))
	handled(t, m, say(95, numbers(0, 1), "a"))
	m.Close(0)
	want(t, m, say(93, numbers(7, 5)), say(97, numbers(7)))

	m = opened(t, small())
	handled(t, m, say(95, numbers(0, 1), "abcd"))
	handled(t, m, say(95, numbers(0, 1), "a"))
	handled(t, m, say(96, numbers(0)), mux.Ended)
	want(t, m, say(93, numbers(7, 5)))
}

// P19.1: a close that was received discards what is queued, and no eof is sent.
func TestFlushDiscards(t *testing.T) {
	for _, requested := range []bool{false, true} {
		m := opened(t, mux.Config{Buffer: 300})
		m.Write(0, strings.Repeat("a", 200))
		m.EOF(0)
		m.Flush()
		if requested {
			m.Close(0)
		}
		if out, _ := m.Waits(0); out != 100 {
			t.Errorf("%d bytes wait", out)
		}
		handled(t, m, say(97, numbers(0)), mux.Closed)
		if out, _ := m.Waits(0); out != 0 {
			t.Errorf("%d bytes wait after a close", out)
		}
		if l := m.Channels(); len(l) != 1 {
			t.Errorf("the channels are %v", l)
		}
		handled(t, m, say(93, numbers(0, 1000)))
		want(t, m, say(97, numbers(7)))
		if l := m.Channels(); len(l) != 0 {
			t.Errorf("the channels are %v", l)
		}
	}
}

// P19.1: what was caused is sent even if its channel is gone.
func TestFlushCaused(t *testing.T) {
	m := mux.New(mux.Config{Channels: 1, Window: 3, Most: 2})
	m.Open("a", "b")
	handled(t, m, say(92, numbers(0, 5), "", ""), mux.Failed)
	m.Open("c", "d")
	handled(t, m, say(91, numbers(0, 9, 1, 1), ""), mux.Confirmed)
	handled(t, m, message.Msg{Kind: 98, U: numbers(0), S: []string{"", ""}, B: []bool{true}})
	if l, err := m.Handle(say(90, numbers(1<<32-1, 1, 1), "x", "")); len(l) != 0 || err != nil {
		t.Errorf("%v, %v", l, err)
	}
	handled(t, m, say(97, numbers(0)), mux.Closed)
	want(t, m, say(90, numbers(0, 3, 2), "a", "b"), say(90, numbers(0, 3, 2), "c", "d"), say(100, numbers(9)), say(92, numbers(1<<32-1, 4), "", ""), say(97, numbers(9)))
	want(t, m)
}

// P19.1: what was handed in and what was returned is the caller's.
func TestMemory(t *testing.T) {
	b := newBoth(t, small())
	u, s := make([]uint32, 3, 9), make([]string, 2, 9)
	copy(u, numbers(7, 100, 30))
	s[0], s[1] = "type", "rest"
	events, err := b.handle(message.Msg{Kind: 90, U: u, S: s})
	if err != nil || u[:4][3] != 0 || u[0] != 7 || s[:3][2] != "" || s[0] != "type" {
		t.Fatalf("%v: %v, %q", err, u[:9], s[:9])
	}
	u[0], u[1], u[2], s[0], s[1] = 9, 9, 9, "9", "9"
	if events[0] != (mux.Event{Kind: mux.Asked, Word: "type", Text: "rest"}) {
		t.Errorf("%v", events)
	}
	b.accept(0)
	b.open("x", "y")
	first := b.flush()
	for i := range first {
		clear(first[i].U)
		clear(first[i].S)
		first[i] = message.Msg{}
	}
	b.write(0, "abc")
	second := b.flush()
	b.handle(say(91, numbers(1, 3, 100, 30), ""))
	b.write(1, "def")
	kept := encoded(t, second)
	b.flush()
	_ = append(second[:0], say(97, numbers(1)))
	b.write(1, "ghi")
	b.flush()
	if kept[0] != say(94, numbers(7), "abc").Bytes() {
		t.Errorf("%q", kept)
	}
	channels := b.mux.Channels()
	clear(channels)
	b.flush()
}
