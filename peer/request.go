package peer

import (
	"speakeasy/api"
	"speakeasy/message"
	"speakeasy/wire"
)

const mostAlias = 255 // bytes of an alias in a request

// Forward requests a lease of a name.
func (p *Peer) Forward(alias string, port uint32) error {
	return p.name("tcpip-forward", alias, port)
}

// Cancel requests the end of such a lease.
func (p *Peer) Cancel(alias string, port uint32) error {
	return p.name("cancel-tcpip-forward", alias, port)
}

// Beat tells the relay that the leases are still in use.
func (p *Peer) Beat() error {
	if !p.In() {
		return api.ErrState
	}
	p.request("keepalive@openssh.com", "", "")
	return nil
}

// Dial asks for a channel to the device that has leased a name.
func (p *Peer) Dial(alias string, port uint32) (int, error) {
	if err := p.check(alias); err != nil {
		return 0, err
	}
	return p.Open("direct-tcpip", target(alias, port).Text("peer").U32(0).Bytes())
}

// Reject refuses a channel for which the other end has asked.
func (p *Peer) Reject(n int, reason uint32) error { return p.Mux.Reject(n, reason, "") }

// name sends a request about a name.
func (p *Peer) name(kind, alias string, port uint32) error {
	if err := p.check(alias); err != nil {
		return err
	}
	p.request(kind, target(alias, port).Bytes(), alias)
	return nil
}

// check returns the error of a request about a name, if it has one.
func (p *Peer) check(alias string) error {
	if !p.In() {
		return api.ErrState
	}
	if len(alias) > mostAlias {
		return api.ErrBig
	}
	return nil
}

// request sends a request that is to be answered; the answer is reported with word.
func (p *Peer) request(kind, rest, word string) {
	p.waiting = append(p.waiting, word)
	p.send(message.Msg{Kind: message.GlobalRequest, S: []string{kind, rest}, B: []bool{true}})
}

// target returns how requests begin that say which name is meant.
func target(alias string, port uint32) *wire.Out { return new(wire.Out).Text(alias).U32(port) }
