package world

import (
	"speakeasy/api"
	"speakeasy/edsign"
)

// Forward requests a lease of a name for a device.
func (w *World) Forward(name, alias string) error {
	m := w.members[name]
	if m == nil {
		return api.ErrNone
	}
	return m.Forward(alias, port)
}

// Cancel requests the end of such a lease.
func (w *World) Cancel(name, alias string) error {
	m := w.members[name]
	if m == nil {
		return api.ErrNone
	}
	return m.Cancel(alias, port)
}

// Beat tells the relay that a device's leases are still in use.
func (w *World) Beat(name string) error {
	m := w.members[name]
	if m == nil {
		return api.ErrNone
	}
	return m.Beat()
}

// Dial asks for a channel to the device that has leased an alias, and expects the
// host key of the given device.
func (w *World) Dial(name, alias, device string) (int, error) {
	m := w.members[name]
	if m == nil {
		return 0, api.ErrNone
	}
	n, err := m.Dial(alias, port)
	if err != nil {
		return 0, err
	}
	m.pins[n] = edsign.Key(w.inside(device))
	return n, nil
}

// End closes a channel.
func (w *World) End(name string, channel int) error {
	m := w.members[name]
	if m == nil {
		return api.ErrNone
	}
	return m.Close(channel)
}

// tunnel returns the inner session of a channel; nil: there is none.
func (w *World) tunnel(name string, channel int) *tunnel {
	m := w.members[name]
	if m == nil {
		return nil
	}
	return m.tunnels[channel]
}

// Say writes within the inner session of a channel.
func (w *World) Say(name string, channel int, s string) error {
	t := w.tunnel(name, channel)
	if t == nil {
		return api.ErrNone
	}
	return t.Write(s)
}

// Hear reads within the inner session of a channel.
func (w *World) Hear(name string, channel, n int) (string, error) {
	t := w.tunnel(name, channel)
	if t == nil {
		return "", api.ErrNone
	}
	return t.Read(n), nil
}

// Ready reports whether the inner session of a channel is ready.
func (w *World) Ready(name string, channel int) bool {
	t := w.tunnel(name, channel)
	return t != nil && t.Ready()
}
