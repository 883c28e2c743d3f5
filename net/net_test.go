package net_test

import (
	"fmt"
	"math"
	"math/rand"
	"strings"
	"testing"

	"speakeasy/api"
	"speakeasy/net"
)

// model is a link as the document says it, with directions that are plain strings.
type model struct {
	room int
	down bool
	ways [2]string
}

func (m *model) wrong(way int) error {
	if way != 0 && way != 1 {
		return api.ErrArg
	}
	if m.down {
		return api.ErrGone
	}
	return nil
}

func (m *model) put(way int, s string) (int, error) {
	if err := m.wrong(way); err != nil {
		return 0, err
	}
	n := min(len(s), m.room-len(m.ways[way]))
	m.ways[way] += s[:n]
	return n, nil
}

func (m *model) take(way, n int) (string, error) {
	if err := m.wrong(way); err != nil {
		return "", err
	}
	n = min(max(n, 0), len(m.ways[way]))
	s := m.ways[way][:n]
	m.ways[way] = m.ways[way][n:]
	return s, nil
}

func (m *model) bend(way, at int, by byte) error {
	if err := m.wrong(way); err != nil {
		return err
	}
	if at < 0 || at >= len(m.ways[way]) {
		return api.ErrNone
	}
	s := m.ways[way]
	m.ways[way] = s[:at] + string([]byte{s[at] ^ by}) + s[at+1:]
	return nil
}

func (m *model) lengths(way int) (int, int) {
	if m.wrong(way) != nil {
		return 0, 0
	}
	return len(m.ways[way]), m.room - len(m.ways[way])
}

// both is a link and its model.
type both struct {
	*testing.T
	*net.Wire
	model *model
}

func create(t *testing.T, room int) *both {
	t.Helper()
	w := net.New(room)
	if w == nil {
		t.Fatal("no link")
	}
	return &both{T: t, Wire: w, model: &model{room: min(max(room, 1), 1<<24)}}
}

func (b *both) put(way int, s string) {
	b.Helper()
	n, err := b.Put(way, s)
	if want, wrong := b.model.put(way, s); n != want || err != wrong {
		b.Fatalf("Put(%d, %.50q): %d, %v, not %d, %v", way, s, n, err, want, wrong)
	}
	b.check()
}

func (b *both) take(way, n int) {
	b.Helper()
	s, err := b.Take(way, n)
	if want, wrong := b.model.take(way, n); s != want || err != wrong {
		b.Fatalf("Take(%d, %d): %.50q, %v, not %.50q, %v", way, n, s, err, want, wrong)
	}
	b.check()
}

func (b *both) bend(way, at int, by byte) {
	b.Helper()
	if err, wrong := b.Bend(way, at, by), b.model.bend(way, at, by); err != wrong {
		b.Fatalf("Bend(%d, %d, %x): %v, not %v", way, at, by, err, wrong)
	}
	b.check()
}

func (b *both) lose(way, n int) {
	b.Helper()
	lost, err := b.Lose(way, n)
	if want, wrong := b.model.take(way, n); lost != len(want) || err != wrong {
		b.Fatalf("Lose(%d, %d): %d, %v, not %d, %v", way, n, lost, err, len(want), wrong)
	}
	b.check()
}

func (b *both) fall() {
	b.Helper()
	b.Down()
	b.model.down, b.model.ways = true, [2]string{}
	b.check()
}

// check compares what can be asked of the link.
func (b *both) check() {
	b.Helper()
	for _, way := range []int{0, 1, 2, -1, math.MinInt, math.MaxInt} {
		n, room := b.model.lengths(way)
		if b.Len(way) != n || b.Room(way) != room || b.Up() == b.model.down {
			b.Fatalf("direction %d: %d bytes, room for %d, up: %v, not %d, %d, %v", way, b.Len(way), b.Room(way), b.Up(), n, room, !b.model.down)
		}
	}
}

// numbers are arguments that are far beyond what there is.
var numbers = []int{math.MinInt, -1 << 32, -2, -1, 0, 1, 2, 3, 1 << 24, 1 << 32, 1<<32 + 1, math.MaxInt}

// P25.1: the capacity has a range.
func TestCapacity(t *testing.T) {
	for room, want := range map[int]int{
		math.MinInt: 1, -1 << 32: 1, -1: 1, 0: 1, 1: 1, 2: 2, 1000: 1000,
		1<<24 - 1: 1<<24 - 1, 1 << 24: 1 << 24, 1<<24 + 1: 1 << 24, 1<<32 + 5: 1 << 24, math.MaxInt: 1 << 24,
	} {
		b := create(t, room)
		if b.Room(0) != want || b.Room(1) != want || b.Len(0) != 0 || b.Len(1) != 0 || !b.Up() {
			t.Errorf("New(%d): room for %d and %d", room, b.Room(0), b.Room(1))
		}
		b.check()
		b.put(1, strings.Repeat("x", want+1))
		if b.Room(1) != 0 || b.Room(0) != want {
			t.Errorf("New(%d): room for %d and %d", room, b.Room(0), b.Room(1))
		}
	}
}

// P25.1: the example of the document, and other results of single calls.
func TestCalls(t *testing.T) {
	b := create(t, 2)
	if n, err := b.Put(0, "abc"); n != 2 || err != nil {
		t.Errorf("%d, %v", n, err)
	}
	if s, err := b.Take(0, 1); s != "a" || err != nil {
		t.Errorf("%q, %v", s, err)
	}
	b = create(t, 9)
	b.put(0, "")
	b.put(0, "abcd")
	b.put(1, "vwx")
	b.take(0, 0)
	b.take(0, -1)
	b.lose(0, -1)
	b.bend(0, 1, 3)
	b.bend(0, 3, 0xff)
	b.bend(0, 0, 0)
	b.bend(0, 4, 1)
	b.bend(0, -1, 1)
	b.bend(1, 3, 1)
	b.lose(0, 1)
	b.put(0, "efghijklm")
	b.bend(0, 8, 1)
	b.put(0, "n")
	b.take(0, 4)
	b.take(0, 99)
	b.take(0, 99)
	b.lose(0, 99)
	b.bend(0, 0, 1)
	b.lose(1, 2)
	b.take(1, math.MaxInt)
}

// P25.1: what is wrong with a direction or a link that is down, and in which order.
func TestWrong(t *testing.T) {
	for _, down := range []bool{false, true} {
		b := create(t, 5)
		b.put(0, "abc")
		b.put(1, "defgh")
		if down {
			b.fall()
		}
		for _, way := range numbers {
			want := error(nil)
			if down {
				want = api.ErrGone
			}
			if way != 0 && way != 1 {
				want = api.ErrArg
			}
			if n, err := b.Put(way, ""); n != 0 || err != want {
				t.Errorf("Put(%d): %d, %v", way, n, err)
			}
			for _, n := range numbers {
				b.bend(way, n, 1)
				b.put(way, "x")
			}
		}
		for _, way := range []int{2, -1, 0, 1} {
			for _, n := range numbers {
				b.lose(way, n)
				b.put(way, "xyz")
				b.take(way, n)
			}
		}
	}
}

// P25.1: a link that is down remains so, and what was on it is lost.
func TestDown(t *testing.T) {
	b := create(t, 5)
	b.put(0, "abc")
	b.put(1, "d")
	for range 3 {
		b.fall()
		b.put(0, "e")
		b.take(0, 3)
		b.take(1, 3)
		b.lose(1, 1)
		b.bend(0, 0, 1)
		if b.Up() {
			t.Fatal("it is up")
		}
	}
}

// P25.1: links have nothing in common.
func TestTwoLinks(t *testing.T) {
	a, b := create(t, 5), create(t, 5)
	a.put(0, "abc")
	b.put(0, "xyzxyz")
	b.bend(0, 0, 1)
	a.check()
	b.fall()
	a.take(0, 5)
}

// random makes calls with all kinds of arguments.
func (b *both) random(source *rand.Rand, calls int) {
	b.Helper()
	pick := func() int {
		if source.Intn(12) == 0 {
			return numbers[source.Intn(len(numbers))]
		}
		return source.Intn(2 * min(b.model.room, 40))
	}
	for range calls {
		way := source.Intn(2)
		if source.Intn(20) == 0 {
			way = numbers[source.Intn(len(numbers))]
		}
		switch source.Intn(5) {
		case 0, 1:
			s := make([]byte, source.Intn(1+min(b.model.room, 60)))
			source.Read(s)
			b.put(way, string(s))
		case 2:
			b.take(way, pick())
		case 3:
			b.bend(way, pick(), byte(source.Intn(256)))
		case 4:
			b.lose(way, pick())
		}
	}
}

// P25.1: any calls, in any order.
func TestRandom(t *testing.T) {
	source := rand.New(rand.NewSource(251))
	for range 60 {
		b := create(t, source.Intn(200)-2)
		b.random(source, 400)
		b.fall()
		b.random(source, 60)
	}
}

// P25.2: each byte that is taken is the one that was put in its place, with the
// changes of that place.
func TestInOrder(t *testing.T) {
	source := rand.New(rand.NewSource(252))
	for _, room := range []int{1, 2, 7, 1000, 1 << 24} {
		w := net.New(room)
		var put [2][]byte // all that was put, with its changes
		var gone [2]int   // how many of these bytes were taken or lost
		for range 3000 {
			way := source.Intn(2)
			place := fmt.Sprintf("%d %d at %d", room, way, gone[way])
			n := source.Intn(50)
			there := len(put[way]) - gone[way]
			switch source.Intn(4) {
			case 0, 1:
				s := make([]byte, n)
				source.Read(s)
				put[way] = append(put[way], s[:min(n, room-there)]...)
				if got, err := w.Put(way, string(s)); got != len(put[way])-gone[way]-there || err != nil {
					t.Fatalf("%s: %d, %v", place, got, err)
				}
			case 2:
				want := string(put[way][gone[way]:][:min(n, there)])
				gone[way] += len(want)
				if s, err := w.Take(way, n); s != want || err != nil {
					t.Fatalf("%s: %q, %v, not %q", place, s, err, want)
				}
			case 3:
				if n < there {
					put[way][gone[way]+n] ^= 0x55
					if err := w.Bend(way, n, 0x55); err != nil {
						t.Fatalf("%s: %v", place, err)
					}
				}
				if source.Intn(3) == 0 {
					lost, err := w.Lose(way, 1)
					gone[way] += min(1, there)
					if lost != min(1, there) || err != nil {
						t.Fatalf("%s: %d, %v", place, lost, err)
					}
				}
			}
		}
		for way := range 2 {
			if s, err := w.Take(way, math.MaxInt); s != string(put[way][gone[way]:]) || err != nil || len(put[way]) < 100 {
				t.Fatalf("%d %d: %.99q, %v", room, way, s, err)
			}
		}
	}
}
