package message

import (
	"speakeasy/api"
	"speakeasy/wire"
)

const algorithm = "ssh-ed25519"

// KeyBlob returns the encoding of a public key.
func KeyBlob(key [32]byte) string { return blob(string(key[:])) }

// BlobKey returns the public key whose encoding is s.
func BlobKey(s string) ([32]byte, error) {
	var key [32]byte
	text, err := unblob(s, len(key), api.ErrKey)
	copy(key[:], text)
	return key, api.Wrap("key", err)
}

// SignBlob returns the encoding of a signature.
func SignBlob(sig [64]byte) string { return blob(string(sig[:])) }

// BlobSign returns the signature whose encoding is s.
func BlobSign(s string) ([64]byte, error) {
	var sig [64]byte
	text, err := unblob(s, len(sig), api.ErrSign)
	copy(sig[:], text)
	return sig, api.Wrap("signature", err)
}

func blob(text string) string {
	var o wire.Out
	return o.Text(algorithm).Text(text).Bytes()
}

// unblob returns the second Text of s. The error is the given one if the first is
// not the algorithm, or the second does not have that size.
func unblob(s string, size int, unfit error) (string, error) {
	i := wire.Of(s)
	name, text := i.Text(len(s)), i.Text(len(s))
	if err := i.End(); err != nil {
		return "", err
	}
	if name != algorithm || len(text) != size {
		return "", unfit
	}
	return text, nil
}
