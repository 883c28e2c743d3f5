package conn

import (
	"speakeasy/api"
	"speakeasy/message"
	"speakeasy/mux"
	"speakeasy/wire"
)

// The kinds of events.
const (
	In = iota + 1
	Forward
	Cancel
	Beat
	Dial
	Confirmed
	Failed
	Came
	Ended
	Closed
	Gone
)

// The reasons for which a channel is rejected.
const (
	prohibited  = 1
	unknownType = 3
)

// Event is what received bytes cause. The tenant of In and the alias of Forward,
// Cancel and Dial are its Word.
type Event struct {
	Kind, Channel int
	Word          string
	Port, Reason  uint32
	Want          bool
}

// process processes a message of the layer above the session.
func (c *Conn) process(m message.Msg) ([]Event, error) {
	switch m.Kind {
	case message.ServiceRequest:
		reply, err := c.auth.Service(m)
		if err != nil {
			return nil, err
		}
		c.send(reply)
		return nil, nil
	case message.AuthRequest:
		return c.logIn(m)
	case message.GlobalRequest:
		return c.request(m)
	case message.RequestSuccess, message.RequestFailure:
		return nil, nil
	}
	if m.Kind < message.Open || m.Kind > message.ChannelFailure {
		return nil, api.ErrKind
	}
	return c.handle(m)
}

// logIn processes an auth-request. If it returns no error, nobody was logged in
// before.
func (c *Conn) logIn(m message.Msg) ([]Event, error) {
	reply, err := c.auth.Handle(m)
	if err != nil {
		return nil, err
	}
	c.send(reply)
	if tenant, in := c.Who(); in {
		return []Event{{Kind: In, Word: tenant}}, nil
	}
	return nil, nil
}

// request processes a global-request.
func (c *Conn) request(m message.Msg) ([]Event, error) {
	if !c.entered() {
		return nil, api.ErrState
	}
	want := m.B[0]
	switch m.S[0] {
	case "tcpip-forward":
		return named(Forward, m.S[1], want)
	case "cancel-tcpip-forward":
		return named(Cancel, m.S[1], want)
	case "keepalive@openssh.com":
		return []Event{{Kind: Beat, Want: want}}, nil
	}
	if want {
		c.Answer(false, "")
	}
	return nil, nil
}

// named returns the event of a request whose rest is a name and a port.
func named(kind int, rest string, want bool) ([]Event, error) {
	i := wire.Of(rest)
	alias, port := i.Text(api.MaxPacket), i.U32()
	if err := i.End(); err != nil {
		return nil, err
	}
	return []Event{{Kind: kind, Word: alias, Port: port, Want: want}}, nil
}

// handle processes a message of the channels.
func (c *Conn) handle(m message.Msg) ([]Event, error) {
	if !c.entered() {
		return nil, api.ErrState
	}
	caused, err := c.mux.Handle(m)
	var events []Event
	for _, e := range caused {
		if e.Kind == mux.Asked {
			events = append(events, c.asked(e)...)
			continue
		}
		events = append(events, Event{Kind: kindOf(e), Channel: e.Channel, Reason: e.Reason})
	}
	return events, err
}

// kindOf returns the kind as which an event of the channels is reported.
func kindOf(e mux.Event) int {
	switch e.Kind {
	case mux.Confirmed:
		return Confirmed
	case mux.Failed:
		return Failed
	case mux.Came:
		return Came
	case mux.Ended:
		return Ended
	}
	return Closed
}

// asked reports that a name is dialed, unless a channel of another kind is asked for.
func (c *Conn) asked(e mux.Event) []Event {
	if e.Word != "direct-tcpip" {
		_ = c.Reject(e.Channel, unknownType)
		return nil
	}
	i := wire.Of(e.Text)
	alias, port := i.Text(api.MaxPacket), i.U32()
	i.Text(api.MaxPacket) // where the client says that it is
	i.U32()
	if i.End() != nil {
		_ = c.Reject(e.Channel, prohibited)
		return nil
	}
	return []Event{{Kind: Dial, Channel: e.Channel, Word: alias, Port: port}}
}
