package wire

import (
	"strings"

	"speakeasy/api"
)

// In reads fields, up to the first error.
type In struct {
	rest string
	err  error
}

// Of returns a decoder that reads s from its first byte.
func Of(s string) *In { return &In{rest: s} }

// Byte reads one byte.
func (i *In) Byte() byte { return byte(i.number(1)) }

// Bool reads one byte, and reports whether it is different from 0.
func (i *In) Bool() bool { return i.Byte() != 0 }

// U32 reads four bytes, big-endian.
func (i *In) U32() uint32 { return uint32(i.number(u32Size)) }

// U64 reads eight bytes, big-endian.
func (i *In) U64() uint64 { return i.number(u64Size) }

func (i *In) number(size int) uint64 {
	s, n := i.Raw(size), uint64(0)
	for j := range len(s) {
		n = n<<8 | uint64(s[j])
	}
	return n
}

// Raw reads n bytes; none if n is negative.
func (i *In) Raw(n int) string {
	n = max(n, 0)
	if n > len(i.rest) {
		return i.fail(api.ErrEnd)
	}
	s := i.rest[:n]
	i.rest = i.rest[n:]
	return s
}

// Text reads a length, which may be at most the given one, then as many bytes.
func (i *In) Text(most int) string {
	n := int64(i.U32())
	if n > int64(most) {
		return i.fail(api.ErrBig)
	}
	return i.Raw(int(n))
}

// Names reads a name list.
func (i *In) Names() []string {
	s := i.Text(mostNames)
	if s == "" {
		return nil
	}
	names := strings.Split(s, ",")
	for _, name := range names {
		if !Name(name) {
			i.fail(api.ErrForm)
			return nil
		}
	}
	return names
}

// Big reads a number of at most the given bytes, and returns it without leading
// zero bytes.
func (i *In) Big(most int) string {
	most = min(max(most, 0), mostBig)
	s := i.Text(most + 1)
	number := shortest(s)
	if unsigned(number) != s {
		return i.fail(api.ErrForm)
	}
	if len(number) > most {
		return i.fail(api.ErrBig)
	}
	return number
}

// Left returns how many bytes are not read yet.
func (i *In) Left() int { return len(i.rest) }

// Err returns the first error, or nil.
func (i *In) Err() error { return i.err }

// End returns the first error; bytes that are left are one.
func (i *In) End() error {
	if i.rest != "" {
		i.fail(api.ErrForm)
	}
	return i.err
}

// fail ends the reading; the first error stays. It returns what a text is then.
func (i *In) fail(err error) string {
	if i.err == nil {
		i.err = err
	}
	i.rest = ""
	return ""
}
