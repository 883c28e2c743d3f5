package packet

import (
	"speakeasy/api"
	"speakeasy/poly"
	"speakeasy/wire"
)

const (
	mostBody    = 1 + api.MaxPacket + 255 // a payload with the longest padding
	leastPlain  = 12
	leastSealed = 8
)

// Reader reads the packets of a direction; the zero value reads plain ones.
type Reader struct {
	direction
	buffer []byte
	err    error
}

// Open makes the reader open all further packets with the key.
func (r *Reader) Open(key [32]byte) { r.seal(key) }

// Feed appends bytes to the buffer; none after an error.
func (r *Reader) Feed(s string) {
	if r.err == nil {
		r.buffer = append(r.buffer, s...)
	}
}

// Waits returns the number of bytes in the buffer.
func (r *Reader) Waits() int { return len(r.buffer) }

// Next returns the next payload, or false if its packet is not complete yet.
func (r *Reader) Next() (string, bool, error) {
	if r.err != nil {
		return "", false, r.err
	}
	payload, size, err := r.first()
	if err != nil {
		r.buffer = nil
		r.err = api.Wrap("packet", err)
		return "", false, r.err
	}
	if size == 0 {
		return "", false, nil
	}
	r.buffer = r.buffer[size:]
	r.count++
	return payload, true, nil
}

// first returns the payload of the packet at the start of the buffer, and the size
// of that packet; 0 if it is not complete.
func (r *Reader) first() (string, int, error) {
	if len(r.buffer) < headSize {
		return "", 0, nil
	}
	head := string(r.buffer[:headSize])
	length := wire.Of(head).U32()
	if err := r.check(length); err != nil {
		return "", 0, err
	}
	size := headSize + int(length)
	if r.sealed {
		size += tagSize
	}
	if len(r.buffer) < size {
		return "", 0, nil
	}
	body, err := r.opened(string(r.buffer[headSize:size]), head)
	if err != nil {
		return "", 0, err
	}
	payload, err := unpadded(body)
	return payload, size, err
}

// check returns an error if no body of a packet has that length.
func (r *Reader) check(length uint32) error {
	if length > mostBody {
		return api.ErrBig
	}
	least := uint32(leastPlain)
	if r.sealed {
		least = leastSealed
	}
	if length < least || (r.padded()+int(length))%unit != 0 {
		return api.ErrForm
	}
	return nil
}

// opened returns the body of the next packet as it was before it was sealed.
func (r *Reader) opened(body, head string) (string, error) {
	if !r.sealed {
		return body, nil
	}
	return poly.Open(r.key, r.nonce(), body, head)
}

// unpadded returns the payload of a body.
func unpadded(body string) (string, error) {
	padding := int(body[0])
	if padding < leastPadding || 1+padding >= len(body) {
		return "", api.ErrForm
	}
	return body[1 : len(body)-padding], nil
}
