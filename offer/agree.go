package offer

import (
	"speakeasy/api"
	"speakeasy/message"
)

// The lists of a kexinit, by their places. Where there are two, one a direction,
// the place is that of the first one.
const (
	kexList    = 0
	hostList   = 1
	cipherList = 2
	macList    = 4
	zipList    = 6
)

// places are the names of the lists that are compared.
var places = [...]string{"kex", "host", "cipher 0", "cipher 1", "mac 0", "mac 1", "zip 0", "zip 1"}

// Chosen are the algorithms on which a client and a server agree. Index 0 is the
// direction from client to server, or the client; index 1 is the other one.
type Chosen struct {
	Kex, Host        string
	Cipher, Mac, Zip [2]string
	Skip             [2]bool
}

// Agree returns what the kexinits of a client and a server lead to.
func Agree(client, server message.Msg) (Chosen, error) {
	if !isOffer(client) || !isOffer(server) {
		return Chosen{}, api.ErrKind
	}
	t := talk{sent: [2]message.Msg{client, server}}
	c := t.agree()
	if t.err != nil {
		return Chosen{}, t.err
	}
	wrong := t.differs(kexList) || t.differs(hostList)
	for end := range 2 {
		c.Skip[end] = wrong && t.sent[end].B[0]
	}
	return c, nil
}

func isOffer(m message.Msg) bool { return m.Kind == message.KexInit && m.Check() == nil }

// talk is what the client (index 0) and the server have sent, and the first error
// in comparing it.
type talk struct {
	sent [2]message.Msg
	err  error
}

// agree compares the lists in the order in which an error counts.
func (t *talk) agree() Chosen {
	var c Chosen
	c.Kex = t.choose(kexList)
	c.Host = t.choose(hostList)
	for direction := range 2 {
		c.Cipher[direction] = t.choose(cipherList + direction)
	}
	for direction := range 2 {
		c.Mac[direction] = "implied"
		if c.Cipher[direction] != chacha {
			c.Mac[direction] = t.choose(macList + direction)
		}
	}
	for direction := range 2 {
		c.Zip[direction] = t.choose(zipList + direction)
	}
	return c
}

// choose compares one list of both ends, unless there was an error before.
func (t *talk) choose(list int) string {
	if t.err != nil {
		return ""
	}
	name, err := Choose(t.sent[0].N[list], t.sent[1].N[list])
	t.err = api.Wrap(places[list], err)
	return name
}

// differs reports whether the ends prefer different elements of a list, which has
// some at both ends if they agree.
func (t *talk) differs(list int) bool { return t.sent[0].N[list][0] != t.sent[1].N[list][0] }
