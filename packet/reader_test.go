package packet_test

import (
	"errors"
	"fmt"
	"math"
	"math/rand"
	"strings"
	"testing"

	"speakeasy/api"
	"speakeasy/packet"
)

// checkNext checks that the next payload is there.
func checkNext(t *testing.T, what string, r *packet.Reader, want string, waits int, count uint64) {
	t.Helper()
	payload, is, err := r.Next()
	if payload != want || !is || err != nil || r.Waits() != waits || r.Count() != count {
		t.Fatalf("%s: %d bytes (%.50q), %v, error %v, %d waiting, count %d", what, len(payload), payload, is, err, r.Waits(), r.Count())
	}
}

// checkNone checks that the next packet is not complete, however often one asks.
func checkNone(t *testing.T, what string, r *packet.Reader, waits int, count uint64) {
	t.Helper()
	for range 2 {
		payload, is, err := r.Next()
		if payload != "" || is || err != nil || r.Waits() != waits || r.Count() != count {
			t.Fatalf("%s: %.50q, %v, error %v, %d waiting, count %d", what, payload, is, err, r.Waits(), r.Count())
		}
	}
}

// checkFault checks that an error comes and stays, whatever is called then.
func checkFault(t *testing.T, what string, r *packet.Reader, want error, count uint64) {
	t.Helper()
	_, _, first := r.Next()
	var fault *api.Fault
	if !errors.As(first, &fault) || first != error(fault) || fault.Where != "packet" || fault.Err != want {
		t.Fatalf("%s: error %v, not %v", what, first, want)
	}
	for range 2 {
		payload, is, err := r.Next()
		if payload != "" || is || err != first || r.Waits() != 0 || r.Count() != count {
			t.Fatalf("%s: %.50q, %v, error %v, %d waiting, count %d", what, payload, is, err, r.Waits(), r.Count())
		}
		r.Feed(plain("a"))
		r.Open(keys[2])
		r.Feed(sealed(keys[2], count, "a"))
	}
}

// P12.1: packets of every size, as far as there is a padding for it.
func TestNextSizes(t *testing.T) {
	source := rand.New(rand.NewSource(1))
	for _, size := range []int{1, 2, 3, 4, 5, 6, 7, 8, 9, 100, 255, 256, 257, most - 1, most} {
		payload := randomText(source, size)
		var r packet.Reader
		checkNone(t, "nothing", &r, 0, 0)
		r.Feed(plain(payload) + "ab")
		checkNext(t, fmt.Sprint("plain ", size), &r, payload, 2, 1)
		checkNone(t, "the rest", &r, 2, 1)
		s := sealedReader(keys[0], 3)
		checkNone(t, "nothing", s, 0, 3)
		s.Feed(sealed(keys[0], 3, payload) + "ab")
		checkNext(t, fmt.Sprint("sealed ", size), s, payload, 2, 4)
		checkNone(t, "the rest", s, 2, 4)
	}
}

// lengthError returns what a length field is found to be, nil if it is right.
func lengthError(isSealed bool, n uint32) error {
	least, before := uint32(12), uint64(4)
	if isSealed {
		least, before = 8, 0
	}
	switch {
	case n > 33024:
		return api.ErrBig
	case n < least || (uint64(n)+before)%8 != 0:
		return api.ErrForm
	}
	return nil
}

// P12.1: every length up to some beyond the greatest one, and great ones, which are
// checked when the four bytes are there, but not earlier.
func TestNextLengths(t *testing.T) {
	lengths := []uint32{1 << 16, 1 << 24, 1<<24 + 8, math.MaxInt32, 1 << 31, 1<<31 + 12, math.MaxUint32 - 3, math.MaxUint32}
	for n := range uint32(33100) {
		lengths = append(lengths, n)
	}
	for _, n := range lengths {
		for _, isSealed := range []bool{false, true} {
			what, r := fmt.Sprintf("length %d, sealed %v", n, isSealed), new(packet.Reader)
			if isSealed {
				r.Open(keys[0])
			}
			r.Feed(length(int(n))[:3])
			checkNone(t, what, r, 3, 0)
			r.Feed(length(int(n))[3:])
			if want := lengthError(isSealed, n); want != nil {
				checkFault(t, what, r, want, 0)
				continue
			}
			checkNone(t, what, r, 4, 0)
			r.Feed("\x04")
			checkNone(t, what, r, 5, 0)
		}
	}
}

// P12.1: every length of the padding in bodies of several sizes; the padding may
// be any bytes.
func TestNextPadding(t *testing.T) {
	source := rand.New(rand.NewSource(2))
	for _, size := range []int{8, 16, 24, 32, 256, 264, 512, 33024} {
		for padding := range 256 {
			body := string([]byte{byte(padding)}) + randomText(source, size-1)
			what := fmt.Sprintf("body of %d bytes, padding %d", size, padding)
			s := sealedReader(keys[1], 1)
			s.Feed(sealedOf(keys[1], 1, body))
			checkBody(t, what+", sealed", s, body, 1)
			if size == 8 {
				continue
			}
			var r packet.Reader
			r.Feed(plainOf(body[:size-4]))
			checkBody(t, what+", plain", &r, body[:size-4], 0)
		}
	}
}

// checkBody checks what the next packet holds, which has this body.
func checkBody(t *testing.T, what string, r *packet.Reader, body string, count uint64) {
	t.Helper()
	padding := int(body[0])
	if padding < 4 || len(body)-1-padding < 1 {
		checkFault(t, what, r, api.ErrForm, count)
		return
	}
	checkNext(t, what, r, body[1:len(body)-padding], 0, count+1)
}

// P12.1: the padding of a sealed packet is looked at only when its tag fits.
func TestMacBeforePadding(t *testing.T) {
	bad := sealedOf(keys[0], 0, strings.Repeat("\x03", 8))
	checkedFault := func(s string, want error) {
		t.Helper()
		r := sealedReader(keys[0], 0)
		r.Feed(s)
		checkFault(t, "padding of 3 bytes", r, want, 0)
	}
	checkedFault(bad, api.ErrForm)
	checkedFault(bad[:len(bad)-1]+string([]byte{bad[len(bad)-1] ^ 1}), api.ErrMac)
}

// P12.1: the key counts that was given last, also for bytes received earlier.
func TestOpenLater(t *testing.T) {
	var r packet.Reader
	r.Feed(plain("a") + sealed(keys[0], 1, "b") + sealed(keys[1], 2, "c"))
	all := r.Waits()
	if all != 16+2*(4+8+16) {
		t.Errorf("%d bytes wait", all)
	}
	checkNext(t, "plain", &r, "a", all-16, 1)
	r.Open(keys[2])
	r.Open(keys[0])
	checkNext(t, "the first key", &r, "b", 28, 2)
	r.Open(keys[1])
	checkNext(t, "the second key", &r, "c", 0, 3)
	r.Feed(length(16))
	checkNone(t, "a length", &r, 4, 3)

	var plainToo packet.Reader
	plainToo.Feed(length(12))
	checkNone(t, "a plain length", &plainToo, 4, 0)
	plainToo.Open(keys[0])
	checkFault(t, "a plain length in front of a sealed packet", &plainToo, api.ErrForm, 0)
}

// P12.1: payloads before an error are returned, and bytes behind it are not.
func TestErrorAmongPackets(t *testing.T) {
	var r packet.Reader
	r.Feed(plain("a") + plain("b") + length(13) + plain("c"))
	checkNext(t, "before", &r, "a", 16+4+16, 1)
	checkNext(t, "before", &r, "b", 4+16, 2)
	checkFault(t, "a length of 13", &r, api.ErrForm, 2)
}

// P12.1: readers do not share anything, and payloads stay as they are.
func TestTwoReaders(t *testing.T) {
	var a, b packet.Reader
	a.Open(keys[0])
	b.Feed(plain("first"))
	checkNone(t, "nothing fed", &a, 0, 0)
	first, _, _ := b.Next()
	for range 50 {
		b.Feed(plain("other"))
		b.Next()
	}
	if first != "first" {
		t.Errorf("the payload became %q", first)
	}
}
