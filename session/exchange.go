package session

import (
	"speakeasy/api"
	"speakeasy/curve"
	"speakeasy/edsign"
	"speakeasy/hmac"
	"speakeasy/kex"
	"speakeasy/message"
	"speakeasy/offer"
)

// step is how far an exchange is at this end.
type step int

const (
	idle   step = iota // none is in progress, and one at least has been completed
	begun              // this end has sent its kexinit
	agreed             // so has the other end; the client has sent ecdh-init
	keyed              // this end has sent newkeys
)

// exchange is the exchange in progress. In the arrays, index 0 is the client.
type exchange struct {
	step   step
	skip   bool // the next packet is a wrong guess
	draw   [32]byte
	offers [2]message.Msg
	points [2][32]byte
	host   [32]byte
	hash   [32]byte
	keys   [2][32]byte
}

// begin begins the next exchange.
func (s *Session) begin() {
	s.now = exchange{step: begun}
	var cookie [16]byte
	copy(cookie[:], s.random("cookie", len(cookie)))
	copy(s.now.draw[:], s.random("point", len(s.now.draw)))
	s.now.points[s.own] = curve.Base(s.now.draw)
	s.now.offers[s.own] = offer.Make(cookie, offer.Ours(), false)
	s.send(s.now.offers[s.own])
}

// random returns n bytes for the exchange in progress.
func (s *Session) random(what string, n int) string {
	return hmac.Spread(s.config.Seed, what+string([]byte{byte(s.kexes)}), n)
}

// other returns the index of the other end.
func (s *Session) other() int { return 1 - s.own }

// agree processes a kexinit.
func (s *Session) agree(m message.Msg) error {
	if s.now.step >= agreed {
		return api.ErrState
	}
	if s.now.step == idle {
		s.begin()
	}
	s.now.offers[s.other()] = m
	chosen, err := offer.Agree(s.now.offers[client], s.now.offers[server])
	if err != nil {
		return err
	}
	s.now.step = agreed
	s.now.skip = chosen.Skip[s.other()]
	if s.config.Client {
		point := s.now.points[client]
		s.send(message.Msg{Kind: message.ECDHInit, S: []string{string(point[:])}})
	}
	return nil
}

// reply processes an ecdh-init.
func (s *Session) reply(m message.Msg) error {
	if s.config.Client || s.now.step != agreed {
		return api.ErrState
	}
	host := edsign.Key(s.config.Host)
	if err := s.share(host, m.S[0]); err != nil {
		return err
	}
	point := s.now.points[server]
	sig := edsign.Sign(s.config.Host, string(s.now.hash[:]))
	s.send(message.Msg{Kind: message.ECDHReply, S: []string{message.KeyBlob(host), string(point[:]), message.SignBlob(sig)}})
	s.seal()
	return nil
}

// verify processes an ecdh-reply.
func (s *Session) verify(m message.Msg) error {
	if !s.config.Client || s.now.step != agreed {
		return api.ErrState
	}
	host, err := message.BlobKey(m.S[0])
	if err != nil {
		return err
	}
	sig, err := message.BlobSign(m.S[2])
	if err != nil {
		return err
	}
	if err := s.share(host, m.S[1]); err != nil {
		return err
	}
	if host != s.config.Pin {
		return api.ErrHost
	}
	if !edsign.Verify(host, string(s.now.hash[:]), sig) {
		return api.ErrSign
	}
	s.seal()
	return nil
}

// share calculates, from the other end's point, what both ends know.
func (s *Session) share(host [32]byte, point string) error {
	if len(point) != len(s.now.draw) {
		return api.ErrForm
	}
	s.now.points[s.other()] = [32]byte([]byte(point))
	secret, err := kex.Share(s.now.draw, s.now.points[s.other()])
	if err != nil {
		return err
	}
	x := kex.Exchange{Host: message.KeyBlob(host), Points: s.now.points, Secret: secret}
	x.Lines[s.own], x.Lines[s.other()] = s.line, s.hello.Peer()
	for end, m := range s.now.offers {
		x.Inits[end] = m.Bytes()
	}
	s.now.host, s.now.hash = host, x.Hash()
	id := s.id
	if s.kexes == 0 {
		id = s.now.hash
	}
	s.now.keys = kex.Keys(secret, s.now.hash, id)
	return nil
}

// seal sends newkeys, and seals all further packets with the new key.
func (s *Session) seal() {
	s.send(message.Msg{Kind: message.NewKeys})
	s.writer.Seal(s.now.keys[s.own])
	s.now.step = keyed
}

// complete processes a newkeys. That completes the exchange, because this end has
// sent its own before.
func (s *Session) complete() error {
	if s.now.step != keyed {
		return api.ErrState
	}
	s.reader.Open(s.now.keys[s.other()])
	if s.kexes == 0 {
		s.id, s.key = s.now.hash, s.now.host
	}
	s.kexes++
	s.before = s.writer.Count()
	s.now = exchange{}
	s.flush()
	return nil
}
