package wire

import "strings"

// Out is a buffer to which fields are appended; the zero value is empty.
type Out struct {
	strings.Builder
}

// Byte appends one byte.
func (o *Out) Byte(b byte) *Out {
	o.WriteByte(b)
	return o
}

// Bool appends the byte 1 or 0.
func (o *Out) Bool(is bool) *Out {
	if is {
		return o.Byte(1)
	}
	return o.Byte(0)
}

// U32 appends four bytes, big-endian.
func (o *Out) U32(n uint32) *Out { return o.number(uint64(n), u32Size) }

// U64 appends eight bytes, big-endian.
func (o *Out) U64(n uint64) *Out { return o.number(n, u64Size) }

// number appends the last size bytes of n.
func (o *Out) number(n uint64, size int) *Out {
	for i := range size {
		o.Byte(byte(n >> (8 * (size - 1 - i))))
	}
	return o
}

// Raw appends the bytes of s.
func (o *Out) Raw(s string) *Out {
	o.WriteString(s)
	return o
}

// Text appends the length of s, then its bytes.
func (o *Out) Text(s string) *Out { return o.U32(uint32(len(s))).Raw(s) }

// Names appends a name list; it does not check the names.
func (o *Out) Names(l ...string) *Out { return o.Text(strings.Join(l, ",")) }

// Big appends a number that is not negative; s is the number, big-endian.
func (o *Out) Big(s string) *Out { return o.Text(unsigned(shortest(s))) }

// Bytes returns what was appended.
func (o *Out) Bytes() string { return o.String() }
