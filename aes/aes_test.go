package aes_test

import (
	standard "crypto/aes"
	"crypto/cipher"
	"encoding/hex"
	"math/big"
	"math/rand"
	"strings"
	"testing"

	"speakeasy/aes"
	"speakeasy/api"
)

func unhex(t *testing.T, s string) string {
	t.Helper()
	b, err := hex.DecodeString(strings.ReplaceAll(s, " ", ""))
	if err != nil {
		t.Fatal(err)
	}
	return string(b)
}

func block(t *testing.T, s string) [16]byte {
	t.Helper()
	return [16]byte([]byte(unhex(t, s)))
}

func mustNew(t *testing.T, key string) *aes.Cipher {
	t.Helper()
	c, err := aes.New(key)
	if err != nil || c == nil {
		t.Fatalf("a key of %d bytes: %v, %v", len(key), c, err)
	}
	return c
}

func randomText(r *rand.Rand, n int) string {
	b := make([]byte, n)
	r.Read(b)
	return string(b)
}

func randomBlock(r *rand.Rand) [16]byte { return [16]byte([]byte(randomText(r, 16))) }

// P27.1: keys of 16, 24 and 32 bytes, and of all other lengths.
func TestKeyLengths(t *testing.T) {
	for n := range 300 {
		c, err := aes.New(strings.Repeat("k", n))
		if n == 16 || n == 24 || n == 32 {
			if c == nil || err != nil {
				t.Errorf("%d bytes: %v, %v", n, c, err)
			}
		} else if c != nil || err != api.ErrKey {
			t.Errorf("%d bytes: %v, %v", n, c, err)
		}
	}
	if c, err := aes.New(strings.Repeat("k", 1<<20)); c != nil || err != api.ErrKey {
		t.Errorf("2^20 bytes: %v, %v", c, err)
	}
}

// P27.1: the examples of FIPS 197, appendices B and C.
func TestStandardBlocks(t *testing.T) {
	for _, v := range []struct{ key, plain, sealed string }{
		{"000102030405060708090a0b0c0d0e0f", "00112233445566778899aabbccddeeff", "69c4e0d86a7b0430d8cdb78070b4c55a"},
		{"000102030405060708090a0b0c0d0e0f1011121314151617", "00112233445566778899aabbccddeeff", "dda97ca4864cdfe06eaf70a0ec0d7191"},
		{"000102030405060708090a0b0c0d0e0f101112131415161718191a1b1c1d1e1f", "00112233445566778899aabbccddeeff", "8ea2b7ca516745bfeafc49904b496089"},
		{"2b7e151628aed2a6abf7158809cf4f3c", "3243f6a8885a308d313198a2e0370734", "3925841d02dc09fbdc118597196a0b32"},
	} {
		c := mustNew(t, unhex(t, v.key))
		if got := c.Block(block(t, v.plain)); got != block(t, v.sealed) {
			t.Errorf("key %s: the Block of %s is %x, not %s", v.key, v.plain, got, v.sealed)
		}
		if got := c.Back(block(t, v.sealed)); got != block(t, v.plain) {
			t.Errorf("key %s: the Back of %s is %x, not %s", v.key, v.sealed, got, v.plain)
		}
	}
}

// P27.1: the examples of counter mode in SP 800-38A, F.5.
func TestStandardStreams(t *testing.T) {
	counter := "f0f1f2f3f4f5f6f7f8f9fafbfcfdfeff"
	plain := unhex(t, "6bc1bee22e409f96e93d7e117393172a ae2d8a571e03ac9c9eb76fac45af8e51 30c81c46a35ce411e5fbc1191a0a52ef f69f2445df4f9b17ad2b417be66c3710")
	for _, v := range []struct{ key, sealed string }{
		{"2b7e151628aed2a6abf7158809cf4f3c", "874d6191b620e3261bef6864990db6ce 9806f66b7970fdff8617187bb9fffdff 5ae4df3edbd5d35e5b4f09020db03eab 1e031dda2fbe03d1792170a0f3009cee"},
		{"8e73b0f7da0e6452c810f32b809079e562f8ead2522c6b7b", "1abc932417521ca24f2b0459fe7e6e0b 090339ec0aa6faefd5ccc2c6f4ce8e94 1e36b26bd1ebc670d1bd1d665620abf7 4f78a7f6d29809585a97daec58c6b050"},
		{"603deb1015ca71be2b73aef0857d77811f352c073b6108d72d9810a30914dff4", "601ec313775789a5b7a7f504bbf3d228 f443e3ca4d62b59aca84e990cacaf5c5 2b0930daa23de94ce87017ba2d84988d dfc9c58db67aada613c2dd08457941a6"},
	} {
		c := mustNew(t, unhex(t, v.key))
		sealed := unhex(t, v.sealed)
		for n := range len(plain) + 1 {
			if got := c.Xor(block(t, counter), plain[:n]); got != sealed[:n] {
				t.Errorf("key %s, %d bytes: %x, not %x", v.key, n, got, sealed[:n])
			}
		}
	}
}

// P27.1, P27.2: random keys and blocks, and those of one byte value or one bit, as
// the standard library has it.
func TestBlocks(t *testing.T) {
	r := rand.New(rand.NewSource(27))
	for _, size := range []int{16, 24, 32} {
		for range 150 {
			check(t, randomText(r, size), randomBlock(r))
		}
		for b := range 256 {
			one := strings.Repeat(string([]byte{byte(b)}), 32)
			check(t, one[:size], randomBlock(r))
			check(t, randomText(r, size), [16]byte([]byte(one[:16])))
		}
		for bit := range 8 * size {
			key := make([]byte, size)
			key[bit/8] = 1 << (bit % 8)
			check(t, string(key), [16]byte(key))
		}
	}
}

// check compares Block and Back of one block with the standard library, and then
// lets the cipher go on from their results.
func check(t *testing.T, key string, b [16]byte) {
	t.Helper()
	c := mustNew(t, key)
	other, err := standard.NewCipher([]byte(key))
	if err != nil {
		t.Fatal(err)
	}
	for range 5 {
		var sealed, opened [16]byte
		other.Encrypt(sealed[:], b[:])
		other.Decrypt(opened[:], b[:])
		if got := c.Block(b); got != sealed {
			t.Fatalf("key %x: the Block of %x is %x, not %x", key, b, got, sealed)
		}
		if got := c.Back(b); got != opened {
			t.Fatalf("key %x: the Back of %x is %x, not %x", key, b, got, opened)
		}
		if c.Back(c.Block(b)) != b || c.Block(c.Back(b)) != b {
			t.Fatalf("key %x: Block and Back of %x are not inverse", key, b)
		}
		b = sealed
	}
}

// counters returns a counter before each carry, and the greatest ones.
func counters() [][16]byte {
	l := [][16]byte{{}, {15: 1}, {15: 0xfe}, {0: 0xff}, {0: 0x80}}
	for n := range 16 {
		var c [16]byte
		for i := range n + 1 {
			c[15-i] = 0xff
		}
		l = append(l, c)
		c[15]--
		l = append(l, c)
		c[0] ^= 0x12
		l = append(l, c)
	}
	return l
}

// P27.1: the key stream is the Blocks of the counters in turn, with all carries, and
// wraps around to 0.
func TestCounter(t *testing.T) {
	r := rand.New(rand.NewSource(271))
	wrap := new(big.Int).Lsh(big.NewInt(1), 128)
	for _, size := range []int{16, 24, 32} {
		c := mustNew(t, randomText(r, size))
		for _, counter := range counters() {
			stream := c.Xor(counter, strings.Repeat("\x00", 5*16))
			n := new(big.Int).SetBytes(counter[:])
			for i := range 5 {
				var at [16]byte
				n.FillBytes(at[:])
				want := c.Block(at)
				if got := stream[16*i : 16*i+16]; got != string(want[:]) {
					t.Fatalf("block %d from %x is %x, not %x", i, counter, got, want)
				}
				n.Mod(n.Add(n, big.NewInt(1)), wrap)
			}
		}
	}
}

// P27.1, P27.2: strings of all lengths up to some blocks and of some greater ones, as
// the standard library has it; twice is the original.
func TestXor(t *testing.T) {
	r := rand.New(rand.NewSource(272))
	lengths := []int{255, 256, 257, 4095, 4096, 4097, 16*256 + 5, 16*65537 + 3}
	for n := range 100 {
		lengths = append(lengths, n)
	}
	starts := append(counters(), randomBlock(r), randomBlock(r))
	for i, n := range lengths {
		key, s := randomText(r, []int{16, 24, 32}[i%3]), randomText(r, n)
		counter := starts[r.Intn(len(starts))]
		c := mustNew(t, key)
		other, err := standard.NewCipher([]byte(key))
		if err != nil {
			t.Fatal(err)
		}
		want := make([]byte, n)
		cipher.NewCTR(other, counter[:]).XORKeyStream(want, []byte(s))
		got := c.Xor(counter, s)
		if got != string(want) {
			t.Errorf("%d bytes from %x are not those of the standard library", n, counter)
		}
		if c.Xor(counter, got) != s {
			t.Errorf("%d bytes from %x: twice is not the original", n, counter)
		}
	}
}

// P27.1: the results of a cipher depend on its key alone, not on earlier calls or
// other ciphers.
func TestCipherStays(t *testing.T) {
	r := rand.New(rand.NewSource(273))
	key, b := randomText(r, 32), randomBlock(r)
	c := mustNew(t, key)
	sealed, opened, stream := c.Block(b), c.Back(b), c.Xor(b, "some text, more than a block of it")
	for range 20 {
		c.Xor(randomBlock(r), randomText(r, 50))
		mustNew(t, randomText(r, 16)).Block(b)
		if c.Block(b) != sealed || c.Back(b) != opened || c.Xor(b, "some text, more than a block of it") != stream {
			t.Fatal("another result for the same arguments")
		}
		if mustNew(t, key).Block(b) != sealed {
			t.Fatal("another result for the same key")
		}
	}
}
