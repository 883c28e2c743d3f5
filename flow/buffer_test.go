package flow_test

import (
	"math"
	"math/rand"
	"strings"
	"testing"

	"speakeasy/api"
	"speakeasy/flow"
)

const mostCapacity = 1 << 24

// queue is a Buffer as the document says it.
type queue struct {
	most int
	data string
}

func (q *queue) put(s string) error {
	if len(q.data)+len(s) > q.most {
		return api.ErrQuota
	}
	q.data += s
	return nil
}

func (q *queue) take(n int) string {
	n = min(max(n, 0), len(q.data))
	s := q.data[:n]
	q.data = q.data[n:]
	return s
}

func (q *queue) check(t *testing.T, b *flow.Buffer) {
	t.Helper()
	if b.Len() != len(q.data) || b.Room() != q.most-len(q.data) {
		t.Fatalf("%d bytes and room for %d, not %d and %d", b.Len(), b.Room(), len(q.data), q.most-len(q.data))
	}
}

// P18.1: the capacity is limited to 0 to 2^24, and can be used whole.
func TestBufferCapacity(t *testing.T) {
	for _, most := range []int{math.MinInt, -1 << 33, -1 << 24, -1, 0, 1, 2, 1000, mostCapacity - 1, mostCapacity, mostCapacity + 1, 1 << 32, 1<<32 + 1, math.MaxInt} {
		b, q := flow.NewBuffer(most), &queue{most: min(max(most, 0), mostCapacity)}
		q.check(t, b)
		if err := b.Put(strings.Repeat("x", q.most+1)); err != api.ErrQuota {
			t.Fatalf("capacity %d: one byte more: %v", most, err)
		}
		q.check(t, b)
		all := strings.Repeat("y", q.most)
		if err, want := b.Put(all), q.put(all); err != want {
			t.Fatalf("capacity %d: %v", most, err)
		}
		q.check(t, b)
		if b.Put("z") != api.ErrQuota || b.Put("") != nil {
			t.Fatalf("capacity %d: a full buffer", most)
		}
		if b.Take(math.MaxInt) != all || b.Len() != 0 || b.Room() != q.most || b.Take(1) != "" {
			t.Fatalf("capacity %d: other bytes were taken", most)
		}
	}
}

// P18.1, P18.3: Put one byte more than there is room changes nothing, at every fill.
func TestBufferQuota(t *testing.T) {
	for fill := range 9 {
		b, q := flow.NewBuffer(8), &queue{most: 8}
		start := "abcdefgh"[:fill]
		if err, want := b.Put(start), q.put(start); err != want {
			t.Fatal(err)
		}
		for more := range 12 {
			b, q := flow.NewBuffer(8), &queue{8, start}
			if err := b.Put(start); err != nil {
				t.Fatal(err)
			}
			s := strings.Repeat("z", more)
			if err, want := b.Put(s), q.put(s); err != want {
				t.Fatalf("%d bytes after %d: %v, not %v", more, fill, err, want)
			}
			q.check(t, b)
			if got, want := b.Take(20), q.take(20); got != want {
				t.Fatalf("%d bytes after %d: %q, not %q", more, fill, got, want)
			}
		}
	}
}

// P18.1, P18.3: every count that can be taken, of every number of bytes.
func TestBufferTake(t *testing.T) {
	for fill := range 9 {
		for _, n := range counts(uint32(fill)) {
			b, q := flow.NewBuffer(9), &queue{9, "abcdefgh"[:fill]}
			if err := b.Put(q.data); err != nil {
				t.Fatal(err)
			}
			if got, want := b.Take(n), q.take(n); got != want {
				t.Fatalf("Take(%d) of %d: %q, not %q", n, fill, got, want)
			}
			q.check(t, b)
			if got, want := b.Take(99), q.take(99); got != want {
				t.Fatalf("Take(%d) of %d leaves %q, not %q", n, fill, got, want)
			}
		}
	}
}

// P18.1, P18.3: any sequence of calls; every byte value; what was taken stays as it
// is.
func TestBufferCalls(t *testing.T) {
	random := rand.New(rand.NewSource(4))
	for _, most := range []int{0, 1, 2, 7, 64, 1000, 100000} {
		b, q := flow.NewBuffer(most), &queue{most: most}
		var got, want []string
		next := byte(0)
		for range 3000 {
			if random.Intn(2) == 0 {
				s := make([]byte, random.Intn(most/3+3))
				for i := range s {
					s[i] = next
					next += 7
				}
				if err, want := b.Put(string(s)), q.put(string(s)); err != want {
					t.Fatalf("Put of %d: %v, not %v", len(s), err, want)
				}
			} else {
				n := random.Intn(most/3+3) - 1
				got, want = append(got, b.Take(n)), append(want, q.take(n))
			}
			q.check(t, b)
		}
		got, want = append(got, b.Take(most)), append(want, q.take(most))
		for i := range got {
			if got[i] != want[i] {
				t.Fatalf("capacity %d: Take %d: %q, not %q", most, i, got[i], want[i])
			}
		}
	}
}

// P18.3: bytes go through a buffer that is much smaller than all of them.
func TestBufferThrough(t *testing.T) {
	all := make([]byte, 100000)
	rand.New(rand.NewSource(5)).Read(all)
	b := flow.NewBuffer(300)
	var got strings.Builder
	for rest := string(all); rest != "" || b.Len() > 0; {
		part := rest[:min(len(rest), b.Room(), 211)]
		if err := b.Put(part); err != nil {
			t.Fatal(err)
		}
		rest = rest[len(part):]
		got.WriteString(b.Take(101))
	}
	if got.String() != string(all) {
		t.Error("other bytes came out")
	}
}

// P18.1: two buffers have nothing in common.
func TestBuffersApart(t *testing.T) {
	a, b := flow.NewBuffer(3), flow.NewBuffer(3)
	if a.Put("abc") != nil || b.Len() != 0 || b.Put("def") != nil || a.Take(3) != "abc" || b.Take(3) != "def" {
		t.Error("one buffer changed the other")
	}
}
