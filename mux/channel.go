package mux

import (
	"speakeasy/api"
	"speakeasy/flow"
	"speakeasy/message"
)

// The states of a channel.
const (
	asked  = iota // by the other end
	asking        // by this end
	open
)

// channel is one channel. It has no Send before the other end's window is known.
type channel struct {
	number     int
	other      uint32 // its number at the other end
	state      int
	send       *flow.Send
	recv       *flow.Recv
	queued     *flow.Buffer // bytes to be sent
	unread     *flow.Buffer // bytes received
	eof, close ending
}

// ending is how far an eof or a close has come.
type ending struct{ requested, sent, received bool }

// join gives the channel what the other end tells of itself.
func (c *channel) join(other, window, most uint32) {
	c.other = other
	c.send = flow.NewSend(window, min(most, mostPacket))
}

// receive takes the bytes of one message, which remain within the window.
func (c *channel) receive(n int) error {
	if c.eof.received || c.close.received {
		return api.ErrState
	}
	return c.recv.Got(n)
}

// keep receives bytes that will be read.
func (c *channel) keep(s string) error {
	if err := c.receive(len(s)); err != nil {
		return err
	}
	return c.unread.Put(s) // there is room, as there was in the window
}

// skip receives bytes that nobody will read.
func (c *channel) skip(s string) error {
	if err := c.receive(len(s)); err != nil {
		return err
	}
	c.recv.Used(len(s))
	return nil
}

// receiveEOF records that no more bytes will be received.
func (c *channel) receiveEOF() error {
	if c.eof.received || c.close.received {
		return api.ErrState
	}
	c.eof.received = true
	return nil
}

// receiveClose records a close; one is to be sent as well, without the bytes that
// nobody would read any more.
func (c *channel) receiveClose() error {
	if c.close.received {
		return api.ErrState
	}
	c.close.received = true
	if !c.close.sent {
		c.close.requested = true
		c.queued.Take(c.queued.Len())
	}
	return nil
}

// flush returns what an open channel has to send. It must not have sent a close.
func (c *channel) flush() []message.Msg {
	var out []message.Msg
	if !c.close.received {
		if n := c.recv.Adjust(); n != 0 {
			out = append(out, message.Msg{Kind: message.Adjust, U: []uint32{c.other, n}})
		}
	}
	out = append(out, c.data()...)
	if c.queued.Len() > 0 {
		return out
	}
	if c.eof.requested && !c.eof.sent && !c.close.received {
		c.eof.sent = true
		out = append(out, message.Msg{Kind: message.EOF, U: []uint32{c.other}})
	}
	if c.close.requested {
		c.close.sent = true
		out = append(out, message.Msg{Kind: message.Close, U: []uint32{c.other}})
	}
	return out
}

// data returns the queued bytes for which the other end has room.
func (c *channel) data() []message.Msg {
	var out []message.Msg
	for c.queued.Len() > 0 {
		n := c.send.Take(c.queued.Len())
		if n == 0 {
			break
		}
		out = append(out, message.Msg{Kind: message.Data, U: []uint32{c.other}, S: []string{c.queued.Take(n)}})
	}
	return out
}
