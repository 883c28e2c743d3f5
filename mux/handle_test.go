package mux_test

import (
	"math"
	"strings"
	"testing"

	"speakeasy/api"
	"speakeasy/message"
	"speakeasy/mux"
)

// valid returns a message of a kind whose numbers are n and whose other fields are as
// short as may be.
func valid(kind int, n uint32) message.Msg {
	m := message.Msg{Kind: kind}
	fields, _ := message.Fields(kind)
	for _, f := range fields {
		switch f {
		case 'u':
			m.U = append(m.U, n)
		case 'b':
			m.B = append(m.B, true)
		case 'n':
			m.N = append(m.N, nil)
		case 'c':
			m.S = append(m.S, strings.Repeat("c", 16))
		default:
			m.S = append(m.S, "")
		}
	}
	return m
}

// P19.1: only kinds from 90 to 100 are for channels.
func TestOtherKinds(t *testing.T) {
	for _, kind := range []int{math.MinInt, -91, -1, 0, 89, 101, 127, 255, 256 + 90, 1<<32 + 94, math.MaxInt} {
		b := newBoth(t, small())
		refused(t, b.mux, message.Msg{Kind: kind}, api.ErrKind)
		b.handle(say(kind, numbers(0), "a"))
		b.flush()
	}
	for kind := range 256 {
		if kind >= 90 && kind <= 100 {
			continue
		}
		b := newBoth(t, small())
		b.open("x", "")
		refused(t, b.mux, valid(kind, 0), api.ErrKind)
		b.flush()
	}
}

// P19.1: messages with other fields than their kind has, also for channels that there
// are not.
func TestInvalid(t *testing.T) {
	for kind := 90; kind <= 100; kind++ {
		for _, n := range []uint32{0, 1, 2, 3, math.MaxUint32} {
			good := valid(kind, n)
			if good.Check() != nil {
				t.Fatalf("%+v", good)
			}
			for _, x := range []message.Msg{
				{Kind: kind},
				{Kind: kind, U: append(numbers(n), good.U...), S: good.S, B: good.B},
				{Kind: kind, U: good.U[1:], S: good.S, B: good.B},
				{Kind: kind, U: good.U, S: append([]string{""}, good.S...), B: good.B},
				{Kind: kind, U: good.U, S: good.S, B: append([]bool{true}, good.B...)},
				{Kind: kind, U: good.U, S: good.S, B: good.B, N: [][]string{nil}},
				{Kind: kind, U: good.U, S: good.S, B: good.B, N: [][]string{{"a"}}},
			} {
				refused(t, three(t), x, api.ErrKind)
			}
			for i := range good.S {
				long := good
				long.S = append([]string(nil), good.S...)
				long.S[i] = strings.Repeat("a", api.MaxPacket+1)
				m := three(t)
				refused(t, m, long, api.ErrKind)
				want(t, m)
			}
		}
	}
}

// P19.1: each kind of message for a channel in each state.
func TestKindsAndStates(t *testing.T) {
	none := []error{api.ErrNone, api.ErrNone, api.ErrNone}
	for kind := 91; kind <= 100; kind++ {
		states := []error{api.ErrState, api.ErrState, nil} // asked, asking, open
		if kind <= 92 {
			states = []error{api.ErrState, nil, api.ErrState}
		}
		for i, no := range append(states, none...) {
			x := valid(kind, []uint32{0, 1, 2, 3, 1 << 31, math.MaxUint32}[i])
			m := three(t)
			l, err := m.Handle(x)
			if err != no || no != nil && len(l) != 0 {
				t.Errorf("%+v: %v, %v, not %v", x, l, err, no)
			}
			if no != nil {
				want(t, m)
				if len(m.Channels()) != 3 {
					t.Errorf("%+v: %v", x, m.Channels())
				}
			}
		}
	}
}

// P19.1: what may come after an eof and after a close.
func TestAfterEnd(t *testing.T) {
	for _, x := range []struct {
		ends []int
		no   map[int]error // other kinds are no error
	}{
		{[]int{96}, map[int]error{94: api.ErrState, 95: api.ErrState, 96: api.ErrState}},
		{[]int{97}, map[int]error{94: api.ErrState, 95: api.ErrState, 96: api.ErrState, 97: api.ErrState}},
		{[]int{96, 97}, map[int]error{94: api.ErrState, 95: api.ErrState, 96: api.ErrState, 97: api.ErrState}},
	} {
		for kind := 93; kind <= 100; kind++ {
			m := opened(t, small())
			for _, end := range x.ends {
				handled(t, m, say(end, numbers(0)), end-91)
			}
			if _, err := m.Handle(valid(kind, 0)); err != x.no[kind] {
				t.Errorf("%d after %v: %v", kind, x.ends, err)
			}
		}
	}
	m := opened(t, small()) // a packet that is too long as well
	handled(t, m, say(96, numbers(0)), mux.Ended)
	refused(t, m, say(94, numbers(0), "abcde"), api.ErrState)
	refused(t, m, say(95, numbers(0, 1), "abcde"), api.ErrState)
}

// P19.1: what each event tells, for another channel than 0.
func TestEvents(t *testing.T) {
	b := newBoth(t, small())
	b.open("x", "")
	for _, x := range []struct {
		in    message.Msg
		event mux.Event
	}{
		{say(90, numbers(7, 100, 30), "type", "rest"), mux.Event{Kind: mux.Asked, Channel: 1, Word: "type", Text: "rest"}},
		{say(90, numbers(7, 0, 0), "", ""), mux.Event{Kind: mux.Asked, Channel: 2}},
		{say(92, numbers(0, math.MaxUint32), "text", "en"), mux.Event{Kind: mux.Failed, Channel: 0, Reason: math.MaxUint32}},
	} {
		if l, err := b.handle(x.in); len(l) != 1 || err != nil || l[0] != x.event {
			t.Errorf("%+v: %+v, %v", x.in, l, err)
		}
	}
	b.open("x", "")
	b.open("x", "")
	for _, x := range []struct {
		in    message.Msg
		event mux.Event
	}{
		{say(91, numbers(3, 5, 100, 30), "more"), mux.Event{Kind: mux.Confirmed, Channel: 3}},
		{say(94, numbers(3), "data"), mux.Event{Kind: mux.Came, Channel: 3}},
		{say(94, numbers(3), ""), mux.Event{Kind: mux.Came, Channel: 3}},
		{say(96, numbers(3)), mux.Event{Kind: mux.Ended, Channel: 3}},
		{say(97, numbers(3)), mux.Event{Kind: mux.Closed, Channel: 3}},
	} {
		if l, err := b.handle(x.in); len(l) != 1 || err != nil || l[0] != x.event {
			t.Errorf("%+v: %+v, %v", x.in, l, err)
		}
	}
	b.flush()
}

// P19.1: requests are refused if an answer is wanted; answers have no effect.
func TestRequests(t *testing.T) {
	m := opened(t, small())
	for _, name := range []string{"", "exec", "keepalive@openssh.com"} {
		handled(t, m, message.Msg{Kind: 98, U: numbers(0), S: []string{name, "rest"}, B: []bool{false}})
		handled(t, m, say(99, numbers(0)))
		handled(t, m, say(100, numbers(0)))
		want(t, m)
		x := message.Msg{Kind: 98, U: numbers(0), S: []string{name, "rest"}, B: []bool{true}}
		handled(t, m, x)
		handled(t, m, x)
		want(t, m, say(100, numbers(7)), say(100, numbers(7)))
	}
}

// P19.1, P19.3: extended data uses the window like data, but is not kept.
func TestExtended(t *testing.T) {
	b := newBoth(t, small())
	b.handle(say(90, numbers(7, 100, 30), "x", ""))
	b.accept(0)
	b.flush()
	b.handle(say(94, numbers(0), "ab"))
	for _, code := range []uint32{0, 1, math.MaxUint32} {
		b.handle(say(95, numbers(0, code), "cd"))
	}
	b.handle(say(95, numbers(0, 1), ""))
	b.handle(say(94, numbers(0), "ef"))
	refused(t, b.mux, say(95, numbers(0, 1), "g"), api.ErrWindow)
	if s, err := b.read(0, 99); s != "abef" || err != nil {
		t.Errorf("%q, %v", s, err)
	}
	b.flush()
}

// P19.1: an adjust that would make the other end's window too great changes nothing.
func TestAdjustOverflow(t *testing.T) {
	m := opened(t, mux.Config{Buffer: 200}) // its window is 100
	refused(t, m, say(93, numbers(0, math.MaxUint32-99)), api.ErrWindow)
	refused(t, m, say(93, numbers(0, math.MaxUint32)), api.ErrWindow)
	m.Write(0, strings.Repeat("a", 101))
	thirty := say(94, numbers(7), strings.Repeat("a", 30))
	want(t, m, thirty, thirty, thirty, say(94, numbers(7), strings.Repeat("a", 10)))
	handled(t, m, say(93, numbers(0, math.MaxUint32)))
	refused(t, m, say(93, numbers(0, 1)), api.ErrWindow)
	handled(t, m, say(93, numbers(0, 0)))
	want(t, m, say(94, numbers(7), "a"))
	handled(t, m, say(93, numbers(0, 1)))
	refused(t, m, say(93, numbers(0, 1)), api.ErrWindow)
}
