package auth

import (
	"speakeasy/api"
	"speakeasy/edsign"
	"speakeasy/message"
	"speakeasy/store"
	"speakeasy/wire"
)

const mostTries = 20

// Server authenticates the user of one session.
type Server struct {
	store    *store.Store
	id       [32]byte
	tries    int  // how many attempts may fail
	failed   int  // how many did
	accepted bool // whether the service ssh-userauth is
	in       bool
	tenant   string // that is logged in
	key      [32]byte
}

// New returns a server for the session id; at most tries attempts may fail, limited
// to 1 to 20. A nil store has no keys.
func New(s *store.Store, id [32]byte, tries int) *Server {
	if s == nil {
		s = store.New(0, 0)
	}
	return &Server{store: s, id: id, tries: min(max(tries, 1), mostTries)}
}

// Service processes a service-request.
func (a *Server) Service(m message.Msg) (message.Msg, error) {
	if m.Kind != message.ServiceRequest || m.Check() != nil {
		return message.Msg{}, api.ErrKind
	}
	name := m.S[0]
	switch name {
	case connection:
		if !a.in {
			return message.Msg{}, api.ErrKind
		}
		fallthrough // who is logged in has had userauth accepted already
	case userauth:
		a.accepted = true
		return message.Msg{Kind: message.ServiceAccept, S: []string{name}}, nil
	}
	return message.Msg{}, api.ErrKind
}

// Handle processes an auth-request.
func (a *Server) Handle(m message.Msg) (message.Msg, error) {
	if m.Kind != message.AuthRequest || m.Check() != nil {
		return message.Msg{}, api.ErrKind
	}
	if a.in || !a.accepted {
		return message.Msg{}, api.ErrState
	}
	if a.failed >= a.tries {
		return message.Msg{}, api.ErrAuth
	}
	return a.attempt(m), nil
}

// attempt processes an auth-request that may be made, and returns the reply.
func (a *Server) attempt(m message.Msg) message.Msg {
	c, ok := claimed(m)
	ok = ok && a.owns(c)
	if ok && !c.signed {
		return message.Msg{Kind: message.PKOK, S: []string{algorithm, message.KeyBlob(c.key)}}
	}
	if ok && edsign.Verify(c.key, Signed(a.id, c.user, c.key), c.sig) {
		a.in, a.tenant, a.key = true, c.user, c.key
		return message.Msg{Kind: message.AuthSuccess}
	}
	a.failed++
	return message.Msg{Kind: message.AuthFailure, N: [][]string{{method}}, B: []bool{false}}
}

// claim is what an auth-request says: that the key is one of the user's, and, if it
// is signed, the signature.
type claim struct {
	user   string
	key    [32]byte
	signed bool
	sig    [64]byte
}

// claimed returns what an auth-request says, and whether it has the form of one
// with a public key.
func claimed(m message.Msg) (claim, bool) {
	rest := m.S[3]
	i := wire.Of(rest)
	c := claim{user: m.S[0], signed: i.Bool()}
	name := i.Text(len(rest))
	var notKey, notSign error
	c.key, notKey = message.BlobKey(i.Text(len(rest)))
	if c.signed {
		c.sig, notSign = message.BlobSign(i.Text(len(rest)))
	}
	named := m.S[1] == connection && m.S[2] == method && name == algorithm
	return c, named && notKey == nil && notSign == nil && i.End() == nil
}

// owns reports whether the store assigns the key to the user.
func (a *Server) owns(c claim) bool {
	tenant, err := a.store.Lookup(c.key)
	return err == nil && tenant == c.user
}

// In returns the tenant that is logged in and the key it used, if one is.
func (a *Server) In() (string, [32]byte, bool) { return a.tenant, a.key, a.in }

// Tries returns how many attempts failed.
func (a *Server) Tries() int { return a.failed }
