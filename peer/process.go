package peer

import (
	"speakeasy/api"
	"speakeasy/auth"
	"speakeasy/message"
	"speakeasy/mux"
	"speakeasy/wire"
)

// The kinds of events. Those from Confirmed to Closed follow each other as the kinds
// of layer 19 do.
const (
	In = iota + 1
	Refused
	Granted
	Denied
	Asked
	Confirmed
	Failed
	Came
	Ended
	Closed
	Gone
)

// The reasons for which a channel is rejected.
const (
	prohibited  = 1
	unknownType = 3
)

// Event is what received bytes cause. The alias of Asked, and that of a request that
// is answered by Granted or Denied, is its Word.
type Event struct {
	Kind, Channel int
	Word          string
	Port, Reason  uint32
}

// process processes a message of the layer above the session.
func (p *Peer) process(m message.Msg) ([]Event, error) {
	switch m.Kind {
	case message.ServiceAccept:
		return nil, p.logIn()
	case message.AuthSuccess:
		p.in = true
		return []Event{{Kind: In}}, nil
	case message.AuthFailure:
		p.End(noMoreMethods)
		return []Event{{Kind: Refused}}, nil
	case message.Banner, message.PKOK:
		return nil, nil
	case message.RequestSuccess:
		return p.answer(Granted)
	case message.RequestFailure:
		return p.answer(Denied)
	case message.GlobalRequest:
		if m.B[0] {
			p.send(message.Msg{Kind: message.RequestFailure})
		}
		return nil, nil
	}
	if m.Kind < message.Open || m.Kind > message.ChannelFailure {
		return nil, api.ErrKind
	}
	return p.handle(m)
}

// logIn requests to log in. A request that no packet can hold is an error: as nothing
// would be answered, the peer would wait for ever.
func (p *Peer) logIn() error {
	payload := auth.Request(p.ID(), p.key, p.user).Bytes()
	if payload == "" || len(payload) > api.MaxPacket {
		return api.ErrBig
	}
	_ = p.session.Send(payload) // it is discarded if the session is gone
	return nil
}

// answer reports the answer to the oldest request that had none.
func (p *Peer) answer(kind int) ([]Event, error) {
	if len(p.waiting) == 0 {
		return nil, api.ErrState
	}
	word := p.waiting[0]
	p.waiting = p.waiting[1:]
	return []Event{{Kind: kind, Word: word}}, nil
}

// handle processes a message of the channels.
func (p *Peer) handle(m message.Msg) ([]Event, error) {
	if !p.in {
		return nil, api.ErrState
	}
	caused, err := p.Handle(m)
	var events []Event
	for _, e := range caused {
		if e.Kind == mux.Asked {
			events = append(events, p.asked(e)...)
			continue
		}
		events = append(events, Event{Kind: e.Kind - mux.Confirmed + Confirmed, Channel: e.Channel, Reason: e.Reason})
	}
	return events, err
}

// asked reports that a client has dialed a name, unless a channel of another kind is
// asked for.
func (p *Peer) asked(e mux.Event) []Event {
	if e.Word != "forwarded-tcpip" {
		_ = p.Reject(e.Channel, unknownType)
		return nil
	}
	i := wire.Of(e.Text)
	alias, port := i.Text(api.MaxPacket), i.U32()
	i.Text(api.MaxPacket) // who the client is
	i.U32()
	if i.End() != nil {
		_ = p.Reject(e.Channel, prohibited)
		return nil
	}
	return []Event{{Kind: Asked, Channel: e.Channel, Word: alias, Port: port}}
}
