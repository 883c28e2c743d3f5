package packet_test

import (
	"encoding/binary"
	"math/rand"
	"strings"

	"speakeasy/packet"
	"speakeasy/poly"
)

const most = 32768

var keys = [][32]byte{{1, 2, 3}, {31: 9}, {0: 0xff, 16: 7}}

func randomText(source *rand.Rand, n int) string {
	b := make([]byte, n)
	source.Read(b)
	return string(b)
}

// length returns n as four bytes.
func length(n int) string { return string(binary.BigEndian.AppendUint32(nil, uint32(n))) }

// plainOf returns a plain packet with this body.
func plainOf(body string) string { return length(len(body)) + body }

// sealedOf returns the sealed packet of that number with this body.
func sealedOf(key [32]byte, number uint64, body string) string {
	nonce := [12]byte(binary.BigEndian.AppendUint64(make([]byte, 4), number))
	return length(len(body)) + poly.Seal(key, nonce, body, length(len(body)))
}

// bodyOf returns the body with the shortest padding for which its size and that of
// what is before it are together a multiple of 8.
func bodyOf(before int, payload string) string {
	padding := 4
	for (before+1+len(payload)+padding)%8 != 0 {
		padding++
	}
	return string([]byte{byte(padding)}) + payload + strings.Repeat("\x00", padding)
}

func plain(payload string) string { return plainOf(bodyOf(4, payload)) }

func sealed(key [32]byte, number uint64, payload string) string {
	return sealedOf(key, number, bodyOf(0, payload))
}

// sealedReader returns a reader that has returned as many payloads as given, and
// opens further packets with the key.
func sealedReader(key [32]byte, number int) *packet.Reader {
	var r packet.Reader
	for range number {
		r.Feed(plain("a"))
		r.Next()
	}
	r.Open(key)
	return &r
}
