package mux_test

import (
	"math"
	"math/rand"
	"strings"
	"testing"

	"speakeasy/message"
	"speakeasy/mux"
)

// letters returns n bytes, which differ from those of other calls.
func letters(source *rand.Rand, n int) string {
	var b strings.Builder
	for range n {
		b.WriteByte(byte('a' + source.Intn(26)))
	}
	return b.String()
}

// received returns a message that mostly is for a channel that there may be.
func received(source *rand.Rand) message.Msg {
	kind := []int{90, 90, 91, 91, 92, 93, 93, 94, 94, 94, 94, 95, 96, 97, 98, 99, 100, 5}[source.Intn(18)]
	x := valid(kind, 0)
	for i := range x.U {
		x.U[i] = []uint32{0, 1, 2, 3, 5, 8, 20, math.MaxUint32}[source.Intn(8)]
	}
	if len(x.U) > 0 && source.Intn(20) > 0 {
		x.U[0] = uint32(source.Intn(4))
	}
	for i := range x.S {
		x.S[i] = letters(source, source.Intn(6))
	}
	for i := range x.B {
		x.B[i] = source.Intn(2) == 0
	}
	if source.Intn(50) == 0 {
		x.S = append(x.S, "")
	}
	return x
}

// step does any call.
func step(b *both, source *rand.Rand) {
	n := source.Intn(b.model.channels+2) - 1
	switch source.Intn(20) {
	case 0:
		b.open(letters(source, source.Intn(3)), letters(source, source.Intn(3)))
	case 1, 2:
		b.accept(n)
	case 3:
		if source.Intn(4) == 0 {
			b.reject(n, source.Uint32(), letters(source, source.Intn(300)))
		}
	case 4, 5, 6:
		b.write(n, letters(source, source.Intn(b.model.buffer+2)))
	case 7, 8, 9:
		b.read(n, source.Intn(b.model.window+3)-1)
	case 10:
		if source.Intn(3) == 0 {
			b.eof(n)
		}
	case 11:
		if source.Intn(4) == 0 {
			b.close(n)
		}
	case 12, 13:
		b.flush()
	default:
		b.handle(received(source))
	}
}

// P19.1, P19.3: any calls and messages, compared with the model after each of them.
func TestRandom(t *testing.T) {
	source := rand.New(rand.NewSource(1))
	for range 3000 {
		b := newBoth(t, mux.Config{Channels: source.Intn(6), Buffer: source.Intn(20), Window: uint32(source.Intn(12)), Most: uint32(source.Intn(7))})
		for range 100 {
			step(b, source)
		}
		b.flush()
	}
}

// data returns data or extended data for channel 0.
func data(source *rand.Rand) message.Msg {
	s := letters(source, source.Intn(5))
	if source.Intn(4) == 0 {
		return say(95, numbers(0, 1), s)
	}
	return say(94, numbers(0), s)
}

// P19.1: any calls for one channel that is open, so that all of its parts are reached.
func TestRandomOpen(t *testing.T) {
	source := rand.New(rand.NewSource(2))
	for range 3000 {
		b := newBoth(t, mux.Config{Channels: 1, Buffer: 1 + source.Intn(20), Window: uint32(1 + source.Intn(12)), Most: uint32(1 + source.Intn(12))})
		b.handle(say(90, numbers(uint32(source.Intn(4)), uint32(source.Intn(30)), uint32(source.Intn(10))), "x", ""))
		b.accept(0)
		for range 40 {
			switch source.Intn(12) {
			case 0, 1:
				b.write(0, letters(source, source.Intn(b.model.buffer+1)))
			case 2, 3, 4:
				b.read(0, source.Intn(b.model.window+1))
			case 5, 6:
				b.flush()
			case 7, 8, 9:
				b.handle(data(source))
			case 10:
				b.handle(say(93, numbers(0, uint32(source.Intn(20)))))
			case 11:
				if source.Intn(5) == 0 {
					b.handle(valid(96+source.Intn(2), 0))
				} else if source.Intn(3) == 0 {
					b.eof(0)
				} else if source.Intn(3) == 0 {
					b.close(0)
				}
			}
		}
		b.flush()
	}
}
