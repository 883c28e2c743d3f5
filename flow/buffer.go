package flow

import (
	"bytes"

	"speakeasy/api"
)

const mostBuffer = 1 << 24 // bytes of a buffer's capacity

// Buffer is a queue of bytes.
type Buffer struct {
	most  int
	bytes bytes.Buffer
}

// NewBuffer returns an empty queue for at most most bytes, limited to 0 to 2^24.
func NewBuffer(most int) *Buffer {
	return &Buffer{most: min(max(most, 0), mostBuffer)}
}

// Put appends s.
func (b *Buffer) Put(s string) error {
	if len(s) > b.Room() {
		return api.ErrQuota
	}
	b.bytes.WriteString(s)
	return nil
}

// Take removes the first n bytes, or all if there are fewer, and returns them.
func (b *Buffer) Take(n int) string { return string(b.bytes.Next(max(n, 0))) }

// Len returns how many bytes are in the queue.
func (b *Buffer) Len() int { return b.bytes.Len() }

// Room returns how many more may be put into it.
func (b *Buffer) Room() int { return b.most - b.Len() }
