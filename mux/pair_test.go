package mux_test

import (
	"math/rand"
	"strconv"
	"strings"
	"testing"

	"speakeasy/message"
	"speakeasy/mux"
)

// side is what one end knows of a stream.
type side struct {
	written, read string
	closes        bool // it has requested a close
	gone          bool
}

// stream is a channel as both ends see it.
type stream struct{ sides [2]side }

// pair is two multiplexers with the messages between them.
type pair struct {
	t       *testing.T
	source  *rand.Rand
	muxes   [2]*mux.Mux
	coming  [2][]message.Msg // those under way to an end
	live    [2]map[int]*stream
	asked   [2][]int // not yet accepted or rejected
	streams []*stream
}

func newPair(t *testing.T, source *rand.Rand, a, b mux.Config) *pair {
	return &pair{t: t, source: source, muxes: [2]*mux.Mux{mux.New(a), mux.New(b)}, live: [2]map[int]*stream{{}, {}}}
}

func (p *pair) open(e int) {
	n, err := p.muxes[e].Open("x", strconv.Itoa(len(p.streams)))
	if err == nil {
		s := &stream{}
		p.streams = append(p.streams, s)
		p.live[e][n] = s
	}
}

func (p *pair) write(e, n int) {
	s := letters(p.source, p.source.Intn(30))
	if p.muxes[e].Write(n, s) == nil {
		p.live[e][n].sides[e].written += s
	}
}

// read must return what the other end has written next.
func (p *pair) read(e, n, most int) {
	p.t.Helper()
	s, err := p.muxes[e].Read(n, most)
	if err != nil {
		return
	}
	l := p.live[e][n]
	l.sides[e].read += s
	if !strings.HasPrefix(l.sides[1-e].written, l.sides[e].read) {
		p.t.Fatalf("%q was read, but %q was written", l.sides[e].read, l.sides[1-e].written)
	}
}

func (p *pair) close(e, n int) {
	if p.muxes[e].Close(n) == nil {
		p.live[e][n].sides[e].closes = true
	}
}

func (p *pair) flush(e int) {
	p.coming[1-e] = append(p.coming[1-e], p.muxes[e].Flush()...)
	p.prune(e)
}

// prune forgets the channels that have been removed.
func (p *pair) prune(e int) {
	there := map[int]bool{}
	for _, n := range p.muxes[e].Channels() {
		there[n] = true
	}
	for n, l := range p.live[e] {
		if !there[n] {
			l.sides[e].gone = true
			delete(p.live[e], n)
		}
	}
}

// deliver lets an end handle the next message, which is no error.
func (p *pair) deliver(e int) {
	p.t.Helper()
	if len(p.coming[e]) == 0 {
		return
	}
	x := p.coming[e][0]
	p.coming[e] = p.coming[e][1:]
	if x.Kind == message.EOF || x.Kind == message.Close {
		p.complete(e, int(x.U[0]), x.Kind)
	}
	events, err := p.muxes[e].Handle(x)
	if err != nil {
		p.t.Fatalf("end %d: %+v: %v", e, x, err)
	}
	for _, event := range events {
		if event.Kind == mux.Asked {
			id, _ := strconv.Atoi(event.Text)
			p.live[e][event.Channel] = p.streams[id]
			p.asked[e] = append(p.asked[e], event.Channel)
		}
	}
	p.prune(e)
}

// complete reads what is left before an eof or a close: all that the other end has
// written, unless a close of this end has discarded some of it.
func (p *pair) complete(e, n, kind int) {
	p.t.Helper()
	p.read(e, n, 1<<30)
	l := p.live[e][n]
	if l.sides[e].read != l.sides[1-e].written && (kind == message.EOF || !l.sides[e].closes) {
		p.t.Fatalf("%q was read before the end (%d), but %q was written", l.sides[e].read, kind, l.sides[1-e].written)
	}
}

// decide accepts or rejects the channel that was asked for first.
func (p *pair) decide(e int, accept bool) {
	p.t.Helper()
	if len(p.asked[e]) == 0 {
		return
	}
	n := p.asked[e][0]
	p.asked[e] = p.asked[e][1:]
	err := error(nil)
	if accept {
		err = p.muxes[e].Accept(n)
	} else {
		err = p.muxes[e].Reject(n, 2, "no")
	}
	if err != nil {
		p.t.Fatal(err)
	}
	p.prune(e)
}

// settle accepts, sends, delivers and reads until nothing is left to do.
func (p *pair) settle() {
	p.t.Helper()
	for busy, rounds := true, 0; busy; rounds++ {
		if rounds > 10000 {
			p.t.Fatal("there is always something to do")
		}
		busy = false
		for e := range 2 {
			for len(p.asked[e]) > 0 {
				p.decide(e, true)
			}
			for n := range p.live[e] {
				p.read(e, n, 1<<30)
			}
			p.flush(e)
			for len(p.coming[1-e]) > 0 {
				p.deliver(1 - e)
				busy = true
			}
		}
	}
}

func (p *pair) step() {
	p.t.Helper()
	e, n := p.source.Intn(2), p.source.Intn(4)
	switch p.source.Intn(24) {
	case 0:
		p.open(e)
	case 1:
		p.decide(e, p.source.Intn(4) > 0)
	case 2, 3, 4, 5:
		p.write(e, n)
	case 6, 7, 8, 9:
		p.read(e, n, p.source.Intn(20))
	case 10, 11, 12, 13:
		p.flush(e)
	case 14:
		if p.source.Intn(5) == 0 {
			p.muxes[e].EOF(n)
		}
	case 15:
		if p.source.Intn(5) == 0 {
			p.close(e, n)
		}
	default:
		p.deliver(e)
	}
}

// arrived checks that streams that nobody has closed have brought everything.
func (p *pair) arrived() {
	p.t.Helper()
	for i, l := range p.streams {
		for e := range 2 {
			if l.sides[e].gone || l.sides[1-e].gone {
				continue
			}
			if l.sides[e].read != l.sides[1-e].written {
				p.t.Fatalf("stream %d: %q was read, but %q was written", i, l.sides[e].read, l.sides[1-e].written)
			}
		}
	}
}

// P19.2: two multiplexers whose messages are delayed, but remain in order: the bytes
// read are those written, nothing that one sends is an error to the other, and closed
// channels are free again.
func TestPair(t *testing.T) {
	source := rand.New(rand.NewSource(3))
	config := func() mux.Config {
		return mux.Config{Channels: 1 + source.Intn(4), Buffer: 1 + source.Intn(60), Window: uint32(1 + source.Intn(40)), Most: uint32(1 + source.Intn(20))}
	}
	for range 600 {
		p := newPair(t, source, config(), config())
		for range 400 {
			p.step()
		}
		p.settle()
		p.arrived()
		for e := range 2 {
			for n := range p.live[e] {
				p.close(e, n)
			}
		}
		p.settle()
		for e := range 2 {
			if l := p.muxes[e].Channels(); len(l) != 0 {
				t.Fatalf("closed channels remain: %v", l)
			}
		}
	}
}

// P19.2: more bytes than a window, in both directions at once.
func TestPairLarge(t *testing.T) {
	source := rand.New(rand.NewSource(4))
	p := newPair(t, source, mux.Config{Buffer: 5000, Window: 700, Most: 90}, mux.Config{Buffer: 9000, Window: 64, Most: 32000})
	p.open(0)
	p.settle()
	for range 20 {
		for e := range 2 {
			s := letters(source, 4000)
			if err := p.muxes[e].Write(0, s); err != nil {
				t.Fatal(err)
			}
			p.live[e][0].sides[e].written += s
		}
		p.settle()
		p.arrived()
	}
	if l := p.streams[0]; len(l.sides[0].read) != 80000 || len(l.sides[1].read) != 80000 {
		t.Errorf("%d and %d bytes were read", len(l.sides[0].read), len(l.sides[1].read))
	}
}

// P19.2: both ends close at once, behind as many bytes as the window permits.
func TestPairBothClose(t *testing.T) {
	p := newPair(t, rand.New(rand.NewSource(5)), small(), small())
	p.open(0)
	p.settle()
	for e := range 2 {
		if p.muxes[e].Write(0, "0123456789") != nil {
			t.Fatal("Write")
		}
		p.live[e][0].sides[e].written += "0123456789"
		p.close(e, 0)
	}
	p.flush(0)
	p.flush(1)
	p.settle()
	l := p.streams[0]
	if l.sides[0].read != "0123456789" || l.sides[1].read != "0123456789" || !l.sides[0].gone || !l.sides[1].gone {
		t.Errorf("%+v", l)
	}
}
