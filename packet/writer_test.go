package packet_test

import (
	"math/rand"
	"strings"
	"testing"

	"speakeasy/api"
	"speakeasy/packet"
)

// P12.1: plain packets as the document and RFC 4253 tell.
func TestPackPlain(t *testing.T) {
	tests := []struct{ payload, want string }{
		{"a", "\x00\x00\x00\x0c\x0aa\x00\x00\x00\x00\x00\x00\x00\x00\x00\x00"},
		{"\x00\xff", "\x00\x00\x00\x0c\x09\x00\xff\x00\x00\x00\x00\x00\x00\x00\x00\x00"},
		{"payload", "\x00\x00\x00\x0c\x04payload\x00\x00\x00\x00"},
		{"payload8", "\x00\x00\x00\x14\x0bpayload8\x00\x00\x00\x00\x00\x00\x00\x00\x00\x00\x00"},
	}
	for _, test := range tests {
		var w packet.Writer
		if s, err := w.Pack(test.payload); s != test.want || err != nil || w.Count() != 1 {
			t.Errorf("%q: %x, %v", test.payload, s, err)
		}
	}
}

// checkPack packs a payload and compares the packet and the number of packets.
func checkPack(t *testing.T, w *packet.Writer, payload, want string, count uint64) {
	t.Helper()
	s, err := w.Pack(payload)
	if s != want || err != nil || w.Count() != count {
		t.Fatalf("%d bytes: %.99x, error %v, count %d; not %.99x, count %d", len(payload), s, err, w.Count(), want, count)
	}
}

// P12.1: payloads of every short size and of the greatest ones, plain and sealed,
// with numbers that go on over changes of the key.
func TestPackSizes(t *testing.T) {
	source := rand.New(rand.NewSource(1))
	var sizes []int
	for n := range 70 {
		sizes = append(sizes, n+1)
	}
	for n := range 17 {
		sizes = append(sizes, most-n)
	}
	var w packet.Writer
	if w.Count() != 0 {
		t.Errorf("%d packets at first", w.Count())
	}
	count := uint64(0)
	for _, size := range sizes {
		payload := randomText(source, size)
		checkPack(t, &w, payload, plain(payload), count+1)
		count++
	}
	for _, key := range keys {
		w.Seal(key)
		if w.Count() != count {
			t.Errorf("%d packets after Seal, not %d", w.Count(), count)
		}
		for _, size := range sizes {
			payload := randomText(source, size)
			checkPack(t, &w, payload, sealed(key, count, payload), count+1)
			count++
		}
	}
}

// P12.1: sequence numbers that need more than one byte.
func TestPackNumbers(t *testing.T) {
	var w packet.Writer
	for number := range uint64(66000) {
		if number%2 == 0 { // the padding of a payload of 3 bytes is known
			checkPack(t, &w, "abc", "\x00\x00\x00\x0c\x08abc\x00\x00\x00\x00\x00\x00\x00\x00", number+1)
			continue
		}
		w.Pack("abc")
	}
	w.Seal(keys[0])
	checkPack(t, &w, "abc", sealed(keys[0], 66000, "abc"), 66001)
}

// P12.1: what is no payload uses no sequence number.
func TestPackErrors(t *testing.T) {
	var w packet.Writer
	count := uint64(0)
	fail := func() {
		t.Helper()
		if s, err := w.Pack(""); s != "" || err != api.ErrEnd || w.Count() != count {
			t.Errorf("empty: %x, %v, count %d", s, err, w.Count())
		}
		for _, size := range []int{most + 1, most + 2, 10 * most} {
			if s, err := w.Pack(strings.Repeat("a", size)); s != "" || err != api.ErrBig || w.Count() != count {
				t.Errorf("%d: %x, %v, count %d", size, s, err, w.Count())
			}
		}
	}
	fail()
	checkPack(t, &w, "a", plain("a"), 1)
	count = 1
	fail()
	w.Seal(keys[1])
	fail()
	checkPack(t, &w, "b", sealed(keys[1], 1, "b"), 2)
	count = 2
	fail()
	checkPack(t, &w, "c", sealed(keys[1], 2, "c"), 3)
}

// P12.1: writers do not share anything.
func TestTwoWriters(t *testing.T) {
	var a, b packet.Writer
	a.Seal(keys[0])
	checkPack(t, &b, "b", plain("b"), 1)
	checkPack(t, &a, "a", sealed(keys[0], 0, "a"), 1)
	checkPack(t, &b, "b", plain("b"), 2)
}
