package mux

import (
	"speakeasy/api"
	"speakeasy/message"
)

const noRoom = 4 // the reason of an open-failure: too many channels

// The kinds of events.
const (
	Asked = iota + 1
	Confirmed
	Failed
	Came
	Ended
	Closed
)

// Event is what a message causes. Asked has the channel type as Word and the rest of
// the message as Text, Failed has a Reason.
type Event struct {
	Kind, Channel int
	Word, Text    string
	Reason        uint32
}

// Handle processes a message that was received.
func (m *Mux) Handle(x message.Msg) ([]Event, error) {
	if x.Kind < message.Open || x.Kind > message.ChannelFailure || x.Check() != nil {
		return nil, api.ErrKind
	}
	if x.Kind == message.Open {
		return m.ask(x), nil
	}
	state := open
	if x.Kind == message.Confirm || x.Kind == message.OpenFailure {
		state = asking
	}
	c, err := m.find(int(x.U[0]), state)
	if err != nil {
		return nil, err
	}
	kind, err := m.apply(c, x)
	if err != nil || kind == 0 {
		return nil, err
	}
	e := Event{Kind: kind, Channel: c.number}
	if kind == Failed {
		e.Reason = x.U[1]
	}
	return []Event{e}, nil
}

// ask creates the channel that the other end asks for, if there is room.
func (m *Mux) ask(x message.Msg) []Event {
	if m.full() {
		m.cause(message.OpenFailure, []uint32{x.U[0], noRoom}, "", "")
		return nil
	}
	c := m.create(asked)
	c.join(x.U[0], x.U[1], x.U[2])
	return []Event{{Kind: Asked, Channel: c.number, Word: x.S[0], Text: x.S[1]}}
}

// apply does what a message says to its channel; it returns the kind of the event
// that is to be reported, or 0.
func (m *Mux) apply(c *channel, x message.Msg) (int, error) {
	switch x.Kind {
	case message.Confirm:
		c.state = open
		c.join(x.U[1], x.U[2], x.U[3])
		return Confirmed, nil
	case message.OpenFailure:
		delete(m.channels, c.number)
		return Failed, nil
	case message.Adjust:
		return 0, c.send.Grow(x.U[1])
	case message.Data:
		return Came, c.keep(x.S[0])
	case message.Extended:
		return 0, c.skip(x.S[0])
	case message.EOF:
		return Ended, c.receiveEOF()
	case message.Close:
		err := c.receiveClose()
		m.clean(c)
		return Closed, err
	case message.ChannelRequest:
		if x.B[0] {
			m.cause(message.ChannelFailure, []uint32{c.other})
		}
	}
	return 0, nil
}
