package auth_test

import (
	"encoding/hex"
	"strings"
	"testing"

	"speakeasy/auth"
	"speakeasy/message"
)

// users returns names of tenants and other strings.
func users() []string {
	return []string{"t", "", "tenant-1", "T", "a,b", "\x00", "\xff\xfe", "é", ssh(300), ssh(32768), ssh(32769), ssh(100000)}
}

func ssh(n int) string { return strings.Repeat("s", n) }

// P17.1: the signed data of one example, byte by byte.
func TestSignedExample(t *testing.T) {
	id, key := [32]byte{0: 0xa1, 31: 0xa2}, [32]byte{0: 0xb1, 31: 0xb2}
	zeros := strings.Repeat("00", 30)
	want := "00000020" + "a1" + zeros + "a2" +
		"32" +
		"00000003" + "646576" +
		"0000000e" + "7373682d636f6e6e656374696f6e" +
		"00000009" + "7075626c69636b6579" +
		"01" +
		"0000000b" + "7373682d65643235353139" +
		"00000033" + "0000000b" + "7373682d65643235353139" + "00000020" + "b1" + zeros + "b2"
	if got := hex.EncodeToString([]byte(auth.Signed(id, "dev", key))); got != want {
		t.Errorf("%s, not %s", got, want)
	}
}

// P17.1: the signed data of any session, user and key.
func TestSigned(t *testing.T) {
	for _, user := range users() {
		for _, id := range [][32]byte{{}, session, {0: 255, 31: 255}} {
			for _, key := range [][32]byte{{}, public(seedT), {0: 255, 31: 255}} {
				if got, want := auth.Signed(id, user, key), signedData(id, user, key); got != want {
					t.Errorf("%x, %.40q, %x: %.200x, not %.200x", id, user, key, got, want)
				}
			}
		}
	}
}

// P17.1: a query with any user and key, which need not be a point.
func TestQuery(t *testing.T) {
	for _, user := range users() {
		for _, key := range [][32]byte{{}, public(seedT), {0: 255, 31: 255}, {2}} {
			got, want := auth.Query(user, key), query(user, key)
			if !equal(got, want) {
				t.Errorf("%.40q, %x: %s, not %s", user, key, show(got), show(want))
			}
			checkCoded(t, got)
		}
	}
}

// P17.1: a request with any session, seed and user.
func TestRequest(t *testing.T) {
	for _, user := range users() {
		for _, id := range [][32]byte{{}, session} {
			for _, seed := range [][32]byte{{}, seedT, {0: 255, 31: 255}} {
				got, want := auth.Request(id, seed, user), request(id, seed, user)
				if !equal(got, want) {
					t.Errorf("%x, %x, %.40q: %s, not %s", id, seed, user, show(got), show(want))
				}
				checkCoded(t, got)
			}
		}
	}
}

// checkCoded checks that an auth-request arrives as it is, if its user is not too
// long.
func checkCoded(t *testing.T, m message.Msg) {
	t.Helper()
	if len(m.S[0]) > 32768 {
		return
	}
	if got, err := message.Parse(m.Bytes()); err != nil || !equal(got, m) {
		t.Errorf("%s arrives as %s, %v", show(m), show(got), err)
	}
}

// P17.1: the document's example.
func TestExample(t *testing.T) {
	a := started(t, tenants(t), 1)
	handles(t, "a request", a, auth.Request(session, seedT, "t"), success())
	isIn(t, "a request", a, "t", public(seedT), 0)
}
