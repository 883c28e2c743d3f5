package packet_test

import (
	"fmt"
	"math/rand"
	"slices"
	"testing"

	"speakeasy/api"
	"speakeasy/packet"
)

// traffic is what a writer wrote: packets, their payloads, and before which of
// them which key was set.
type traffic struct {
	payloads, packets []string
	changes           map[int][32]byte
}

func randomTraffic(t *testing.T, source *rand.Rand, n, largest int) traffic {
	t.Helper()
	var w packet.Writer
	c := traffic{changes: map[int][32]byte{}}
	for i := range n {
		if source.Intn(4) == 0 {
			c.changes[i] = keys[source.Intn(len(keys))]
			w.Seal(c.changes[i])
		}
		payload := randomText(source, 1+source.Intn(largest))
		s, err := w.Pack(payload)
		if err != nil {
			t.Fatal(err)
		}
		c.payloads, c.packets = append(c.payloads, payload), append(c.packets, s)
	}
	return c
}

// joined returns the bytes of all packets, and where each packet ends.
func (c traffic) joined() (string, []int) {
	s, ends := "", []int(nil)
	for _, p := range c.packets {
		s += p
		ends = append(ends, len(s))
	}
	return s, ends
}

// readParts feeds the packets in parts whose ends are given. After each part it
// checks that all packets that are complete are returned, and no others.
func (c traffic) readParts(t *testing.T, parts ...int) {
	t.Helper()
	s, ends := c.joined()
	var r packet.Reader
	fed, next, taken := 0, 0, 0
	for _, part := range append(parts, len(s)) {
		r.Feed(s[fed:part])
		fed = part
		for {
			if key, is := c.changes[next]; is {
				r.Open(key)
			}
			if next == len(ends) || ends[next] > fed {
				break
			}
			taken = ends[next]
			checkNext(t, fmt.Sprintf("packet %d of %d bytes up to %d", next, len(s), part), &r, c.payloads[next], fed-taken, uint64(next+1))
			next++
		}
		checkNone(t, fmt.Sprintf("%d of %d bytes", part, len(s)), &r, fed-taken, uint64(next))
	}
	if next != len(c.payloads) {
		t.Errorf("%d payloads, not %d", next, len(c.payloads))
	}
}

// P12.2, P12.3: packets fed whole, in two parts, byte by byte and divided at random.
func TestDivisions(t *testing.T) {
	source := rand.New(rand.NewSource(1))
	for range 60 {
		c := randomTraffic(t, source, 1+source.Intn(8), 60)
		s, ends := c.joined()
		c.readParts(t)
		c.readParts(t, ends...)
		single := []int{0}
		for i := range len(s) {
			single = append(single, i, i+1)
			c.readParts(t, i)
		}
		c.readParts(t, single...)
	}
	for range 20 {
		c := randomTraffic(t, source, 20, most)
		s, _ := c.joined()
		var parts []int
		for end := 0; end < len(s); end = min(len(s), end+source.Intn(40000)) {
			parts = append(parts, end)
		}
		c.readParts(t, parts...)
	}
}

// P12.2: the error is the same one, behind the same payloads, for each division.
func TestDividedErrors(t *testing.T) {
	bad := map[string]error{
		length(33025):       api.ErrBig,
		"\xff\xff\xff\xff":  api.ErrBig,
		length(4) + "aaaa":  api.ErrForm,
		length(13) + "aaaa": api.ErrForm,
		length(12) + "\x03" + "aaaaaaaaaaa" + "more": api.ErrForm,
		length(12) + "\x0b" + "aaaaaaaaaaa" + "more": api.ErrForm,
	}
	for tail, want := range bad {
		s := plain("a") + plain("bc") + tail
		for cut := range len(s) {
			for next := range 2 { // asked between the parts, or not
				var r packet.Reader
				r.Feed(s[:cut])
				var got []string
				for range 4 * next {
					if payload, is, _ := r.Next(); is {
						got = append(got, payload)
					}
				}
				r.Feed(s[cut:])
				for range 2 - len(got) {
					payload, _, _ := r.Next()
					got = append(got, payload)
				}
				if !slices.Equal(got, []string{"a", "bc"}) {
					t.Fatalf("%x cut at %d: %q", s, cut, got)
				}
				checkFault(t, fmt.Sprintf("%x cut at %d", s, cut), &r, want, 2)
			}
		}
	}
}

// P12.3: each changed bit of a sealed packet is noticed.
func TestChangedBits(t *testing.T) {
	source := rand.New(rand.NewSource(3))
	behind := randomText(source, 33024+16)
	for _, payload := range []string{"a", "payload", randomText(source, 50)} {
		whole := sealed(keys[0], 1, payload)
		for bit := range 8 * len(whole) {
			changed := []byte(whole)
			changed[bit/8] ^= 1 << (bit % 8)
			want := api.ErrMac
			if bit < 32 {
				n := uint32(changed[0])<<24 | uint32(changed[1])<<16 | uint32(changed[2])<<8 | uint32(changed[3])
				if err := lengthError(true, n); err != nil {
					want = err
				}
			}
			r := sealedReader(keys[0], 1)
			r.Feed(string(changed) + behind)
			checkFault(t, fmt.Sprintf("bit %d of %d bytes", bit, len(whole)), r, want, 1)
		}
	}
}

// P12.3: sealed packets that are reordered, repeated, omitted, of another key, or
// where plain ones are due, and the other way round.
func TestOtherPackets(t *testing.T) {
	var w packet.Writer
	w.Seal(keys[0])
	var p []string
	for i := range 4 {
		s, _ := w.Pack(string([]byte{byte(i)}))
		p = append(p, s)
	}
	tests := []struct {
		name    string
		packets []string
		want    int // of them are right
		err     error
	}{
		{"in order", p, 4, nil},
		{"reordered", []string{p[1], p[0]}, 0, api.ErrMac},
		{"reordered later", []string{p[0], p[2], p[1], p[3]}, 1, api.ErrMac},
		{"repeated", []string{p[0], p[1], p[1], p[2]}, 2, api.ErrMac},
		{"the first one repeated", []string{p[0], p[1], p[0]}, 2, api.ErrMac},
		{"the first one omitted", p[1:], 0, api.ErrMac},
		{"omitted", []string{p[0], p[2], p[3]}, 1, api.ErrMac},
		{"another key", []string{p[0], sealed(keys[1], 1, "a")}, 1, api.ErrMac},
		{"another number", []string{p[0], sealed(keys[0], 1<<32+1, "a")}, 1, api.ErrMac},
		{"parts of two", []string{p[0], p[1][:12] + p[2][12:]}, 1, api.ErrMac},
		{"plain, not aligned", []string{p[0], plain("a")}, 1, api.ErrForm},
		{"plain, aligned", []string{p[0], length(16) + plain("a") + plain("a")}, 1, api.ErrMac},
	}
	for _, test := range tests {
		r := sealedReader(keys[0], 0)
		for _, s := range test.packets {
			r.Feed(s)
		}
		for i := range test.want {
			payload, is, err := r.Next()
			if payload != string([]byte{byte(i)}) || !is || err != nil {
				t.Errorf("%s: %q, %v, %v", test.name, payload, is, err)
			}
		}
		if test.err == nil {
			checkNone(t, test.name, r, 0, uint64(test.want))
			continue
		}
		checkFault(t, test.name, r, test.err, uint64(test.want))
	}
	var r packet.Reader
	r.Feed(p[0])
	checkFault(t, "sealed where plain is due", &r, api.ErrForm, 0)
}
