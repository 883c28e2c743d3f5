package chacha_test

import (
	"crypto/sha256"
	"encoding/hex"
	"math"
	"testing"

	"speakeasy/chacha"
)

// counting returns the key 0, 1, .., 31.
func counting() [32]byte {
	var key [32]byte
	for i := range key {
		key[i] = byte(i)
	}
	return key
}

// mixed returns a key and a nonce whose bytes all differ.
func mixed() (key [32]byte, nonce [12]byte) {
	for i := range key {
		key[i] = byte(i*7 + 131)
	}
	for i := range nonce {
		nonce[i] = byte(i*29 + 200)
	}
	return key, nonce
}

// full returns the key and the nonce of bytes ff.
func full() (key [32]byte, nonce [12]byte) {
	for i := range key {
		key[i] = 0xff
	}
	for i := range nonce {
		nonce[i] = 0xff
	}
	return key, nonce
}

// sample returns n bytes, among them zero bytes and bytes that are no UTF-8.
func sample(n int) string {
	b := make([]byte, n)
	for i := range b {
		b[i] = byte(i*i*3 + i*11 + 77)
	}
	return string(b)
}

// P3.1: the blocks of RFC 8439 (section 2.3.2 and appendix A.1), and two whose
// words are all different or all ones.
func TestBlock(t *testing.T) {
	mixedKey, mixedNonce := mixed()
	fullKey, fullNonce := full()
	tests := []struct {
		key     [32]byte
		counter uint32
		nonce   [12]byte
		want    string
	}{
		{counting(), 1, [12]byte{3: 9, 7: 0x4a}, "10f1e7e4d13b5915500fdd1fa32071c4c7d1f4c733c068030422aa9ac3d46c4ed2826446079faa0914c2d705d98b02a2b5129cd1de164eb9cbd083e8a2503c4e"},
		{[32]byte{}, 0, [12]byte{}, "76b8e0ada0f13d90405d6ae55386bd28bdd219b8a08ded1aa836efcc8b770dc7da41597c5157488d7724e03fb8d84a376a43b8f41518a11cc387b669b2ee6586"},
		{[32]byte{}, 1, [12]byte{}, "9f07e7be5551387a98ba977c732d080dcb0f29a048e3656912c6533e32ee7aed29b721769ce64e43d57133b074d839d531ed1f28510afb45ace10a1f4b794d6f"},
		{[32]byte{31: 1}, 1, [12]byte{}, "3aeb5224ecf849929b9d828db1ced4dd832025e8018b8160b82284f3c949aa5a8eca00bbb4a73bdad192b5c42f73f2fd4e273644c8b36125a64addeb006c13a0"},
		{[32]byte{1: 0xff}, 2, [12]byte{}, "72d54dfbf12ec44b362692df94137f328fea8da73990265ec1bbbea1ae9af0ca13b25aa26cb4a648cb9b9d1be65b2c0924a66c54d545ec1b7374f4872e99f096"},
		{[32]byte{}, 0, [12]byte{11: 2}, "c2c64d378cd536374ae204b9ef933fcd1a8b2288b3dfa49672ab765b54ee27c78a970e0e955c14f3a88e741b97c286f75f8fc299e8148362fa198a39531bed6d"},
		{mixedKey, 0x89abcdef, mixedNonce, "4c241ac24a8697f10130209a8302cfef17540e5c291ce67e2a7cc9a2c60a8863e76491e21c343ca92eeeba849786aa16409717436b233583c597fc3fd2f0edca"},
		{fullKey, math.MaxUint32, fullNonce, "d72b21cfa4b6b0c41d61f62b8a11159c6a4f63bc56c2035796c7ad37811121bbec56d54a530f3a933dd28a50feb23bfaf64f405be985f3718bdf4683e96be749"},
	}
	for i, test := range tests {
		block := chacha.Block(test.key, test.counter, test.nonce)
		if got := hex.EncodeToString(block[:]); got != test.want {
			t.Errorf("%d: %s, want %s", i, got, test.want)
		}
	}
}

// P3.1: the ciphertexts of RFC 8439 (section 2.4.2 and appendix A.2).
func TestXor(t *testing.T) {
	poem := [32]byte{
		0x1c, 0x92, 0x40, 0xa5, 0xeb, 0x55, 0xd3, 0x8a, 0xf3, 0x33, 0x88, 0x86, 0x04, 0xf6, 0xb5, 0xf0,
		0x47, 0x39, 0x17, 0xc1, 0x40, 0x2b, 0x80, 0x09, 0x9d, 0xca, 0x5c, 0xbc, 0x20, 0x70, 0x75, 0xc0,
	}
	tests := []struct {
		key        [32]byte
		counter    uint32
		nonce      [12]byte
		text, want string
	}{
		{counting(), 1, [12]byte{7: 0x4a}, "Ladies and Gentlemen of the class of '99: If I could offer you only one tip for the future, sunscreen would be it.",
			"6e2e359a2568f98041ba0728dd0d6981e97e7aec1d4360c20a27afccfd9fae0bf91b65c5524733ab8f593dabcd62b3571639d624e65152ab8f530c359f0861d807ca0dbf500d6a6156a38e088a22b65e52bc514d16ccf806818ce91ab77937365af90bbf74a35be6b40b8eedf2785e42874d"},
		{poem, 42, [12]byte{11: 2}, "'Twas brillig, and the slithy toves\nDid gyre and gimble in the wabe:\nAll mimsy were the borogoves,\nAnd the mome raths outgrabe.",
			"62e6347f95ed87a45ffae7426f27a1df5fb69110044c0d73118effa95b01e5cf166d3df2d721caf9b21e5fb14c616871fd84c54f9d65b283196c7fe4f60553ebf39c6402c42234e32a356b3e764312a61a5532055716ead6962568f87d3f3f7704c6a8d1bcd1bf4d50d6154b6da731b187b58dfd728afa36757a797ac188d1"},
		{counting(), 1, [12]byte{}, "", ""},
	}
	for i, test := range tests {
		if got := hex.EncodeToString([]byte(chacha.Xor(test.key, test.counter, test.nonce, test.text))); got != test.want {
			t.Errorf("%d: %s, want %s", i, got, test.want)
		}
	}
	sum := sha256.Sum256([]byte(chacha.Xor(counting(), 7, [12]byte{}, sample(1000))))
	if got := hex.EncodeToString(sum[:]); got != "ae7a3db6b60ac97e71f8087c42c214fb353d571657dd773e69fae54fee33edf6" {
		t.Errorf("the hash of 1000 bytes: %s", got)
	}
}

// P3.1: strings of every length around the ends of the blocks, and counters
// that wrap around to 0 without changing the nonce.
func TestXorBlocks(t *testing.T) {
	key, nonce := mixed()
	for _, counter := range []uint32{0, 1, math.MaxInt32, math.MaxUint32 - 2, math.MaxUint32 - 1, math.MaxUint32} {
		for n := range 260 {
			s := sample(n)
			want := []byte(s)
			for i := range want {
				block := chacha.Block(key, counter+uint32(i/64), nonce)
				want[i] ^= block[i%64]
			}
			if got := chacha.Xor(key, counter, nonce, s); got != string(want) {
				t.Errorf("counter %d, %d bytes: %x, want %x", counter, n, got, want)
			}
		}
	}
	zeros := string(make([]byte, 128))
	first := chacha.Block(key, 0, nonce)
	if got := chacha.Xor(key, math.MaxUint32, nonce, zeros); got[64:] != string(first[:]) {
		t.Errorf("behind the last counter: %x, want %x", got[64:], first)
	}
}

// P3.2: Xor twice returns the original string.
func TestXorTwice(t *testing.T) {
	mixedKey, mixedNonce := mixed()
	fullKey, fullNonce := full()
	for _, counter := range []uint32{0, 1, math.MaxUint32} {
		for _, n := range []int{0, 1, 15, 63, 64, 65, 127, 128, 129, 1000, 40000} {
			s := sample(n)
			for i, twice := range []string{
				chacha.Xor([32]byte{}, counter, [12]byte{}, chacha.Xor([32]byte{}, counter, [12]byte{}, s)),
				chacha.Xor(mixedKey, counter, mixedNonce, chacha.Xor(mixedKey, counter, mixedNonce, s)),
				chacha.Xor(fullKey, counter, fullNonce, chacha.Xor(fullKey, counter, fullNonce, s)),
			} {
				if twice != s {
					t.Errorf("key %d, counter %d, %d bytes: %d other bytes", i, counter, n, len(twice))
				}
			}
		}
	}
}
