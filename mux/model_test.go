package mux_test

import (
	"fmt"
	"math"
	"reflect"
	"slices"
	"testing"

	"speakeasy/api"
	"speakeasy/message"
	"speakeasy/mux"
)

// line is a channel as the document says it, with windows that are plain numbers.
type line struct {
	state                       string // "asked", "asking", "open"
	other                       uint32
	may, most                   uint64 // what the other end's window and packet size permit
	window, unread, used        int    // the three parts of the own window
	queued, received            string
	endWant, endSent, endGot    bool
	quitWant, quitSent, quitGot bool
}

// model is a Mux as the document says it.
type model struct {
	channels, buffer, window, most int
	lines                          map[int]*line
	out                            []message.Msg
}

func newModel(c mux.Config) *model {
	return &model{
		channels: min(max(c.Channels, 1), 32),
		buffer:   min(max(c.Buffer, 1), 1<<24),
		window:   min(max(int(c.Window), 1), 1<<24),
		most:     min(max(int(c.Most), 1), 32000),
		lines:    map[int]*line{},
	}
}

func say(kind int, u []uint32, s ...string) message.Msg {
	return message.Msg{Kind: kind, U: u, S: s}
}

func numbers(u ...uint32) []uint32 { return u }

func (m *model) numbers() []int {
	var l []int
	for n := range m.lines {
		l = append(l, n)
	}
	slices.Sort(l)
	return l
}

func (m *model) create(state string) int {
	n := 0
	for slices.Contains(m.numbers(), n) {
		n++
	}
	m.lines[n] = &line{state: state, window: m.window}
	return n
}

func (m *model) handle(x message.Msg) ([]mux.Event, error) {
	if x.Kind < 90 || x.Kind > 100 || x.Check() != nil {
		return nil, api.ErrKind
	}
	if x.Kind == 90 {
		if len(m.lines) >= m.channels {
			m.out = append(m.out, say(92, numbers(x.U[0], 4), "", ""))
			return nil, nil
		}
		n := m.create("asked")
		l := m.lines[n]
		l.other, l.may, l.most = x.U[0], uint64(x.U[1]), uint64(min(max(x.U[2], 1), 32000))
		return []mux.Event{{Kind: mux.Asked, Channel: n, Word: x.S[0], Text: x.S[1]}}, nil
	}
	n := int(x.U[0])
	l := m.lines[n]
	if l == nil {
		return nil, api.ErrNone
	}
	if x.Kind == 91 || x.Kind == 92 {
		return m.answered(n, l, x)
	}
	if l.state != "open" {
		return nil, api.ErrState
	}
	return m.told(n, l, x)
}

func (m *model) answered(n int, l *line, x message.Msg) ([]mux.Event, error) {
	if l.state != "asking" {
		return nil, api.ErrState
	}
	if x.Kind == 92 {
		delete(m.lines, n)
		return []mux.Event{{Kind: mux.Failed, Channel: n, Reason: x.U[1]}}, nil
	}
	l.state = "open"
	l.other, l.may, l.most = x.U[1], uint64(x.U[2]), uint64(min(max(x.U[3], 1), 32000))
	return []mux.Event{{Kind: mux.Confirmed, Channel: n}}, nil
}

func (m *model) told(n int, l *line, x message.Msg) ([]mux.Event, error) {
	switch x.Kind {
	case 93:
		if l.may+uint64(x.U[1]) > math.MaxUint32 {
			return nil, api.ErrWindow
		}
		l.may += uint64(x.U[1])
	case 94, 95:
		size := len(x.S[0])
		if l.endGot || l.quitGot {
			return nil, api.ErrState
		}
		if size > l.window || size > m.most {
			return nil, api.ErrWindow
		}
		l.window -= size
		if x.Kind == 95 {
			l.used += size
			return nil, nil
		}
		l.unread += size
		l.received += x.S[0]
		return []mux.Event{{Kind: mux.Came, Channel: n}}, nil
	case 96:
		if l.endGot || l.quitGot {
			return nil, api.ErrState
		}
		l.endGot = true
		return []mux.Event{{Kind: mux.Ended, Channel: n}}, nil
	case 97:
		if l.quitGot {
			return nil, api.ErrState
		}
		l.quitGot = true
		if !l.quitSent {
			l.quitWant, l.queued = true, ""
		} else {
			delete(m.lines, n)
		}
		return []mux.Event{{Kind: mux.Closed, Channel: n}}, nil
	case 98:
		if x.B[0] {
			m.out = append(m.out, say(100, numbers(l.other)))
		}
	}
	return nil, nil
}

func (m *model) open(kind, rest string) (int, error) {
	if len(kind) > 64 || len(rest) > 1024 {
		return 0, api.ErrBig
	}
	if len(m.lines) >= m.channels {
		return 0, api.ErrFull
	}
	n := m.create("asking")
	m.out = append(m.out, say(90, numbers(uint32(n), uint32(m.window), uint32(m.most)), kind, rest))
	return n, nil
}

// in returns nil if channel n is in a state.
func (m *model) in(n int, state string) error {
	if m.lines[n] == nil {
		return api.ErrNone
	}
	if m.lines[n].state != state {
		return api.ErrState
	}
	return nil
}

func (m *model) accept(n int) error {
	if err := m.in(n, "asked"); err != nil {
		return err
	}
	m.lines[n].state = "open"
	m.out = append(m.out, say(91, numbers(m.lines[n].other, uint32(n), uint32(m.window), uint32(m.most)), ""))
	return nil
}

func (m *model) reject(n int, reason uint32, text string) error {
	if err := m.in(n, "asked"); err != nil {
		return err
	}
	if len(text) > 256 {
		text = text[:256]
	}
	m.out = append(m.out, say(92, numbers(m.lines[n].other, reason), text, ""))
	delete(m.lines, n)
	return nil
}

func (m *model) write(n int, s string) error {
	if err := m.in(n, "open"); err != nil {
		return err
	}
	l := m.lines[n]
	if l.endWant || l.quitWant || l.quitGot {
		return api.ErrState
	}
	if len(l.queued)+len(s) > m.buffer {
		return api.ErrQuota
	}
	l.queued += s
	return nil
}

func (m *model) read(n, most int) (string, error) {
	if err := m.in(n, "open"); err != nil {
		return "", err
	}
	l := m.lines[n]
	s := l.received[:min(max(most, 0), len(l.received))]
	l.received = l.received[len(s):]
	l.unread -= len(s)
	l.used += len(s)
	return s, nil
}

func (m *model) eof(n int) error {
	if err := m.in(n, "open"); err != nil {
		return err
	}
	l := m.lines[n]
	if l.quitWant || l.endWant {
		return api.ErrState
	}
	l.endWant = true
	return nil
}

func (m *model) close(n int) error {
	if err := m.in(n, "open"); err != nil {
		return err
	}
	l := m.lines[n]
	if l.quitWant {
		return api.ErrState
	}
	l.quitWant = true
	return nil
}

func (m *model) flush() []message.Msg {
	out := m.out
	m.out = nil
	for _, n := range m.numbers() {
		l := m.lines[n]
		if l.state != "open" || l.quitSent {
			continue
		}
		if l.used > 0 && 2*l.used >= m.window && !l.quitGot {
			out = append(out, say(93, numbers(l.other, uint32(l.used))))
			l.window, l.used = l.window+l.used, 0
		}
		for l.queued != "" && l.may > 0 {
			size := min(uint64(len(l.queued)), l.may, l.most)
			out = append(out, say(94, numbers(l.other), l.queued[:size]))
			l.queued, l.may = l.queued[size:], l.may-size
		}
		if l.queued == "" && l.endWant && !l.endSent && !l.quitGot {
			out = append(out, say(96, numbers(l.other)))
			l.endSent = true
		}
		if l.queued == "" && l.quitWant {
			out = append(out, say(97, numbers(l.other)))
			l.quitSent = true
			if l.quitGot {
				delete(m.lines, n)
			}
		}
	}
	return out
}

func (m *model) waits(n int) (int, int) {
	if l := m.lines[n]; l != nil {
		return len(l.queued), len(l.received)
	}
	return 0, 0
}

// both is a Mux beside its model; every method calls both and compares the results.
type both struct {
	t     *testing.T
	mux   *mux.Mux
	model *model
	log   []string
}

func newBoth(t *testing.T, c mux.Config) *both {
	return &both{t: t, mux: mux.New(c), model: newModel(c), log: []string{fmt.Sprintf("%+v", c)}}
}

func (b *both) fail(format string, args ...any) {
	b.t.Helper()
	b.t.Fatalf("%s\nafter %q", fmt.Sprintf(format, args...), b.log[max(0, len(b.log)-40):])
}

// same compares what a call returned, and what can be seen of the channels afterwards.
func (b *both) same(call string, got, want any, err, no error) {
	b.t.Helper()
	b.log = append(b.log, call)
	if !reflect.DeepEqual(got, want) || err != no {
		b.fail("%s: %.2000s, %v, not %.2000s, %v", call, fmt.Sprintf("%#v", got), err, fmt.Sprintf("%#v", want), no)
	}
	if got, want := b.mux.Channels(), b.model.numbers(); !slices.Equal(got, want) {
		b.fail("%s: the channels are %v, not %v", call, got, want)
	}
	for n := -1; n <= b.model.channels; n++ {
		out, in := b.mux.Waits(n)
		if wantOut, wantIn := b.model.waits(n); out != wantOut || in != wantIn {
			b.fail("%s: at channel %d wait %d and %d bytes, not %d and %d", call, n, out, in, wantOut, wantIn)
		}
	}
	b.bounds(call)
}

// bounds checks the maxima.
func (b *both) bounds(call string) {
	b.t.Helper()
	if len(b.mux.Channels()) > b.model.channels {
		b.fail("%s: %d channels", call, len(b.mux.Channels()))
	}
	for _, n := range b.mux.Channels() {
		if out, in := b.mux.Waits(n); out > b.model.buffer || in > b.model.window {
			b.fail("%s: at channel %d wait %d and %d bytes", call, n, out, in)
		}
	}
}

func (b *both) handle(x message.Msg) ([]mux.Event, error) {
	b.t.Helper()
	want, no := b.model.handle(x)
	got, err := b.mux.Handle(x)
	if len(got) == 0 && err == nil {
		got = nil // nil and an empty list are equivalent
	}
	b.same(fmt.Sprintf("Handle(%.200s)", fmt.Sprintf("%+v", x)), got, want, err, no)
	return got, err
}

func (b *both) open(kind, rest string) (int, error) {
	b.t.Helper()
	want, no := b.model.open(kind, rest)
	got, err := b.mux.Open(kind, rest)
	b.same(fmt.Sprintf("Open(%.80q, %.80q)", kind, rest), got, want, err, no)
	return got, err
}

func (b *both) accept(n int) error {
	b.t.Helper()
	no := b.model.accept(n)
	err := b.mux.Accept(n)
	b.same(fmt.Sprintf("Accept(%d)", n), 0, 0, err, no)
	return err
}

func (b *both) reject(n int, reason uint32, text string) error {
	b.t.Helper()
	no := b.model.reject(n, reason, text)
	err := b.mux.Reject(n, reason, text)
	b.same(fmt.Sprintf("Reject(%d, %d, %.80q)", n, reason, text), 0, 0, err, no)
	return err
}

func (b *both) write(n int, s string) error {
	b.t.Helper()
	no := b.model.write(n, s)
	err := b.mux.Write(n, s)
	b.same(fmt.Sprintf("Write(%d, %.80q)", n, s), 0, 0, err, no)
	return err
}

func (b *both) read(n, most int) (string, error) {
	b.t.Helper()
	want, no := b.model.read(n, most)
	got, err := b.mux.Read(n, most)
	b.same(fmt.Sprintf("Read(%d, %d)", n, most), got, want, err, no)
	return got, err
}

func (b *both) eof(n int) error {
	b.t.Helper()
	no := b.model.eof(n)
	err := b.mux.EOF(n)
	b.same(fmt.Sprintf("EOF(%d)", n), 0, 0, err, no)
	return err
}

func (b *both) close(n int) error {
	b.t.Helper()
	no := b.model.close(n)
	err := b.mux.Close(n)
	b.same(fmt.Sprintf("Close(%d)", n), 0, 0, err, no)
	return err
}

// encoded returns messages as bytes; all of them must be valid.
func encoded(t *testing.T, l []message.Msg) []string {
	t.Helper()
	var out []string
	for _, m := range l {
		if err := m.Check(); err != nil {
			t.Fatalf("%.300s: %v", fmt.Sprintf("%+v", m), err)
		}
		out = append(out, m.Bytes())
	}
	return out
}

func (b *both) flush() []message.Msg {
	b.t.Helper()
	want := encoded(b.t, b.model.flush())
	l := b.mux.Flush()
	b.same("Flush()", encoded(b.t, l), want, nil, nil)
	return l
}
