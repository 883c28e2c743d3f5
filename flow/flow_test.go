package flow_test

import (
	"math"
	"math/rand"
	"slices"
	"testing"

	"speakeasy/api"
	"speakeasy/flow"
)

// sizes returns windows and limits next to the ends of their range and others.
func sizes() []uint32 {
	return []uint32{0, 1, 2, 3, 4, 5, 9, 10, 255, 256, 1 << 16, 1<<31 - 1, 1 << 31, 1<<31 + 1, math.MaxUint32 - 1, math.MaxUint32}
}

// counts returns numbers of bytes next to 0, to the given sizes and to the ends of
// an int.
func counts(near ...uint32) []int {
	l := []int{math.MinInt, math.MinInt + 1, -1 << 32, -1<<31 - 1, -1 << 31, -2, -1, 0, 1, 2, 1 << 32, 1<<32 + 1, 1<<32 + 5, 1 << 33, math.MaxInt - 1, math.MaxInt}
	for _, n := range near {
		l = append(l, int(n)-1, int(n), int(n)+1)
	}
	return l
}

// sending is a Send as the document says it.
type sending struct{ window, most int64 }

func (s *sending) grow(n uint32) error {
	if s.window+int64(n) > 1<<32-1 {
		return api.ErrWindow
	}
	s.window += int64(n)
	return nil
}

func (s *sending) take(n int) int {
	count := int(slices.Min([]int64{max(0, int64(n)), s.window, max(1, s.most)}))
	s.window -= int64(count)
	return count
}

// receiving is a Recv as the document says it.
type receiving struct{ size, most, window, unread, consumed int64 }

func (r *receiving) got(n int) error {
	count := max(0, int64(n))
	if count > r.window || count > max(1, r.most) {
		return api.ErrWindow
	}
	r.window -= count
	r.unread += count
	return nil
}

func (r *receiving) used(n int) {
	count := min(max(0, int64(n)), r.unread)
	r.unread -= count
	r.consumed += count
}

func (r *receiving) adjust() uint32 {
	if r.consumed == 0 || 2*r.consumed < r.size {
		return 0
	}
	count := r.consumed
	r.window += count
	r.consumed = 0
	return uint32(count)
}

// P18.1: one Take of every count, from every window with every limit.
func TestSendTake(t *testing.T) {
	for _, window := range sizes() {
		for _, most := range sizes() {
			for _, n := range counts(window, most) {
				s, m := flow.NewSend(window, most), &sending{int64(window), int64(most)}
				if s.Left() != window {
					t.Fatalf("NewSend(%d, %d) has %d left", window, most, s.Left())
				}
				got, want := s.Take(n), m.take(n)
				if got != want || int64(s.Left()) != m.window {
					t.Fatalf("NewSend(%d, %d): Take(%d) is %d with %d left, not %d with %d", window, most, n, got, s.Left(), want, m.window)
				}
			}
		}
	}
}

// P18.1: a limit of 0 counts as 1.
func TestSendOne(t *testing.T) {
	s := flow.NewSend(3, 0)
	for i, want := range []int{1, 1, 1, 0} {
		if got := s.Take(9); got != want {
			t.Errorf("Take %d: %d", i, got)
		}
	}
}

// P18.1: one Grow of every window by every number; one too many changes nothing.
func TestSendGrow(t *testing.T) {
	for _, window := range sizes() {
		for _, n := range append(sizes(), math.MaxUint32-window, math.MaxUint32-window+1, math.MaxUint32-window-1) {
			s, m := flow.NewSend(window, 7), &sending{int64(window), 7}
			err, want := s.Grow(n), m.grow(n)
			if err != want || int64(s.Left()) != m.window {
				t.Fatalf("%d grows by %d: %v with %d left, not %v with %d", window, n, err, s.Left(), want, m.window)
			}
			if got, want := s.Take(9), m.take(9); got != want {
				t.Fatalf("%d grows by %d: then Take is %d, not %d", window, n, got, want)
			}
		}
	}
}

// P18.1: any sequence of calls of a Send.
func TestSendCalls(t *testing.T) {
	r := rand.New(rand.NewSource(1))
	for _, window := range sizes() {
		for _, most := range sizes() {
			s, m := flow.NewSend(window, most), &sending{int64(window), int64(most)}
			near := counts(window, most)
			for range 100 {
				if r.Intn(2) == 0 {
					n := sizes()[r.Intn(len(sizes()))]
					if got, want := s.Grow(n), m.grow(n); got != want {
						t.Fatalf("Grow(%d): %v, not %v", n, got, want)
					}
				} else {
					n := near[r.Intn(len(near))]
					if got, want := s.Take(n), m.take(n); got != want {
						t.Fatalf("Take(%d): %d, not %d", n, got, want)
					}
				}
				if int64(s.Left()) != m.window {
					t.Fatalf("%d left, not %d", s.Left(), m.window)
				}
			}
		}
	}
}

// P18.1: one Got of every count, in every window with every limit; one too many
// changes nothing.
func TestRecvGot(t *testing.T) {
	for _, window := range sizes() {
		for _, most := range sizes() {
			for _, n := range counts(window, most) {
				r, m := flow.NewRecv(window, most), &receiving{size: int64(window), most: int64(most), window: int64(window)}
				if r.Left() != window || r.Adjust() != 0 {
					t.Fatalf("NewRecv(%d, %d) has %d left", window, most, r.Left())
				}
				err, want := r.Got(n), m.got(n)
				if err != want || int64(r.Left()) != m.window {
					t.Fatalf("NewRecv(%d, %d): Got(%d) is %v with %d left, not %v with %d", window, most, n, err, r.Left(), want, m.window)
				}
				r.Used(math.MaxInt)
				m.used(math.MaxInt)
				if got, want := r.Adjust(), m.adjust(); got != want || int64(r.Left()) != m.window {
					t.Fatalf("NewRecv(%d, %d): after Got(%d), Adjust is %d with %d left, not %d with %d", window, most, n, got, r.Left(), want, m.window)
				}
			}
		}
	}
}

// P18.1: the document's example, and a packet as great as the window or the limit.
func TestRecvExamples(t *testing.T) {
	r := flow.NewRecv(10, 4)
	for _, want := range []uint32{0, 8} {
		if err := r.Got(4); err != nil {
			t.Fatal(err)
		}
		r.Used(4)
		if got := r.Adjust(); got != want {
			t.Errorf("Adjust: %d, not %d", got, want)
		}
	}
	if r.Left() != 10 || r.Got(5) != api.ErrWindow || r.Got(4) != nil || r.Got(4) != nil || r.Got(3) != api.ErrWindow || r.Left() != 2 || r.Got(2) != nil || r.Got(1) != api.ErrWindow || r.Got(0) != nil || r.Got(-1) != nil || r.Left() != 0 {
		t.Errorf("%d left", r.Left())
	}
}

// P18.1: Adjust returns bytes as soon as half of the size is consumed, rounded up,
// and those that it returned not again.
func TestRecvHalf(t *testing.T) {
	for size := uint32(0); size < 40; size++ {
		r := flow.NewRecv(size, size)
		if err := r.Got(int(size)); err != nil {
			t.Fatal(err)
		}
		consumed, half := uint32(0), max(1, (size+1)/2)
		for range size {
			r.Used(1)
			consumed++
			want := uint32(0)
			if consumed >= half {
				want, consumed = consumed, 0
			}
			if got := r.Adjust(); got != want {
				t.Fatalf("size %d: Adjust is %d, not %d", size, got, want)
			}
			if got := r.Adjust(); got != 0 {
				t.Fatalf("size %d: the second Adjust is %d", size, got)
			}
		}
	}
	for size, half := range map[uint32]int{1<<31 - 1: 1 << 30, 1 << 31: 1 << 30, 1<<31 + 1: 1<<30 + 1, math.MaxUint32 - 1: 1<<31 - 1, math.MaxUint32: 1 << 31} {
		r := flow.NewRecv(size, size)
		if err := r.Got(int(size)); err != nil {
			t.Fatal(err)
		}
		r.Used(half - 1)
		first := r.Adjust()
		r.Used(1)
		if second := r.Adjust(); first != 0 || second != uint32(half) || r.Left() != second {
			t.Errorf("size %d: Adjust is %d, then %d", size, first, second)
		}
	}
}

// P18.1: Used counts what was received and not consumed, and no more.
func TestRecvUsed(t *testing.T) {
	for _, n := range counts(6) {
		r := flow.NewRecv(10, 10)
		r.Used(n)
		if r.Adjust() != 0 || r.Left() != 10 {
			t.Fatalf("Used(%d) before anything was received: %d left", n, r.Left())
		}
		if err := r.Got(6); err != nil {
			t.Fatal(err)
		}
		r.Used(n)
		want := uint32(min(max(n, 0), 6))
		if want < 5 {
			want = 0
		}
		if got := r.Adjust(); got != want || r.Left() != 4+want {
			t.Fatalf("Used(%d) of 6: Adjust is %d with %d left", n, got, r.Left())
		}
		r.Used(math.MaxInt)
		r.Used(math.MaxInt)
		rest := 6 - min(max(n, 0), 6)
		if want == 0 {
			rest = 6 // none was returned before
		}
		if rest < 5 {
			rest = 0
		}
		if got := r.Adjust(); got != uint32(rest) {
			t.Fatalf("Used(%d), then all: Adjust is %d with %d left", n, got, r.Left())
		}
	}
}

// P18.1, P18.2: any sequence of calls of a Recv; the three parts of the size add up
// to it.
func TestRecvCalls(t *testing.T) {
	random := rand.New(rand.NewSource(2))
	for _, size := range sizes() {
		for _, most := range sizes() {
			r, m := flow.NewRecv(size, most), &receiving{size: int64(size), most: int64(most), window: int64(size)}
			near := append(counts(size, most, size/2, size/3), 3, 4, 5)
			for range 200 {
				n := near[random.Intn(len(near))]
				switch random.Intn(5) {
				case 0, 1:
					if got, want := r.Got(n), m.got(n); got != want {
						t.Fatalf("Got(%d): %v, not %v", n, got, want)
					}
				case 2, 3:
					r.Used(n)
					m.used(n)
				case 4:
					if got, want := r.Adjust(), m.adjust(); got != want {
						t.Fatalf("Adjust: %d, not %d", got, want)
					}
				}
				if int64(r.Left()) != m.window || m.window+m.unread+m.consumed != int64(size) {
					t.Fatalf("%d left, not %d", r.Left(), m.window)
				}
			}
			checkSum(t, r, m)
		}
	}
}

// checkSum consumes and returns everything: then the window is the size again,
// unless too little was consumed, and it takes no more than that.
func checkSum(t *testing.T, r *flow.Recv, m *receiving) {
	t.Helper()
	r.Used(math.MaxInt)
	m.used(math.MaxInt)
	if got, want := r.Adjust(), m.adjust(); got != want || int64(r.Left()) != m.size-m.consumed {
		t.Fatalf("at the end, Adjust is %d with %d left, not %d with %d", got, r.Left(), want, m.size-m.consumed)
	}
	for r.Left() > 0 && m.most > 1<<20 {
		if err := r.Got(int(min(int64(r.Left()), m.most))); err != nil {
			t.Fatalf("%d left: %v", r.Left(), err)
		}
	}
	if r.Got(int(r.Left())+1) != api.ErrWindow {
		t.Fatal("more than the window came")
	}
}

// P18.2: a Send that is told every Adjust, at once or later, never takes more than
// the Recv permits, however the packets are delayed.
func TestPair(t *testing.T) {
	random := rand.New(rand.NewSource(3))
	for _, window := range []uint32{0, 1, 2, 3, 10, 1000, 1 << 31, math.MaxUint32} {
		for _, most := range []uint32{0, 1, 4, 999, 1 << 31, math.MaxUint32} {
			s, r := flow.NewSend(window, most), flow.NewRecv(window, most)
			var packets []int
			var adjusts []uint32
			for range 400 {
				switch random.Intn(5) {
				case 0:
					packets = append(packets, s.Take(random.Intn(int(window)+2)))
				case 1:
					if len(packets) > 0 {
						if err := r.Got(packets[0]); err != nil {
							t.Fatalf("window %d: %d bytes were taken: %v", window, packets[0], err)
						}
						packets = packets[1:]
					}
				case 2:
					r.Used(random.Intn(int(window) + 2))
				case 3:
					adjusts = append(adjusts, r.Adjust())
				case 4:
					if len(adjusts) > 0 {
						if err := s.Grow(adjusts[0]); err != nil {
							t.Fatalf("window %d: an adjust of %d: %v", window, adjusts[0], err)
						}
						adjusts = adjusts[1:]
					}
				}
				checkPair(t, s, r, packets, adjusts)
			}
		}
	}
}

// checkPair compares what may be sent, with what is under way, with what may be
// received.
func checkPair(t *testing.T, s *flow.Send, r *flow.Recv, packets []int, adjusts []uint32) {
	t.Helper()
	total := uint64(s.Left())
	for _, n := range packets {
		total += uint64(n)
	}
	for _, n := range adjusts {
		total += uint64(n)
	}
	if total != uint64(r.Left()) {
		t.Fatalf("%d may be received, but %d are sent, allowed or may be sent", r.Left(), total)
	}
}

// P18.2: bytes that are sent as the window permits are never stuck.
func TestPairMoves(t *testing.T) {
	for window := uint32(1); window < 30; window++ {
		for most := uint32(0); most < 12; most++ {
			s, r := flow.NewSend(window, most), flow.NewRecv(window, most)
			for left, rounds := 500, 0; left > 0; rounds++ {
				n := s.Take(left)
				left -= n
				if err := r.Got(n); err != nil || rounds > 1000 {
					t.Fatalf("window %d, at most %d: %d bytes left: %v", window, most, left, err)
				}
				r.Used(n)
				if err := s.Grow(r.Adjust()); err != nil {
					t.Fatal(err)
				}
			}
		}
	}
}

// P18.1: two objects have nothing in common.
func TestApart(t *testing.T) {
	s, r := flow.NewSend(5, 5), flow.NewRecv(5, 5)
	flow.NewSend(5, 5).Take(5)
	if err := flow.NewRecv(5, 5).Got(5); err != nil || s.Left() != 5 || r.Left() != 5 {
		t.Errorf("%v: %d and %d left", err, s.Left(), r.Left())
	}
}
