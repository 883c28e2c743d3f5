package home

import (
	"speakeasy/keeper"
	"speakeasy/peer"
)

// device is a kept device.
type device struct {
	keeper *keeper.Keeper
	tenant string
	told   []peer.Event // what was read of it, for the caller of Told
}

// tend tells the keeper of a device what has happened, and does what it decides.
func (h *Home) tend(name string) {
	d := h.devices[name]
	for _, e := range h.World.Told(name) {
		d.told = append(d.told, e)
		h.execute(name, d.hear(e))
	}
	if !h.connected(name) {
		d.lose()
	}
	h.cutIdle(name)
	h.execute(name, d.keeper.Tick())
	h.cutIdle(name)
}

// hear passes an event to the keeper, if it is one that concerns it.
func (d *device) hear(e peer.Event) []keeper.Act {
	switch e.Kind {
	case peer.In:
		return d.keeper.Told(keeper.Entered)
	case peer.Granted:
		return d.keeper.Told(keeper.Granted)
	case peer.Denied:
		return d.keeper.Told(keeper.Denied)
	case peer.Refused, peer.Gone:
		return d.keeper.Told(keeper.Lost)
	}
	return nil
}

// lose tells the keeper that its device is not connected. It takes no action then, but
// waits.
func (d *device) lose() { d.keeper.Told(keeper.Lost) }

// cutIdle disconnects a device on which its keeper has given up.
func (h *Home) cutIdle(name string) {
	if h.devices[name].keeper.Vars().State == keeper.Idle {
		_ = h.Cut(name) // it may not be connected
	}
}

// execute takes the actions that a keeper has decided on.
func (h *Home) execute(name string, acts []keeper.Act) {
	for _, a := range acts {
		switch a.Kind {
		case keeper.Connect:
			h.connect(name)
		case keeper.Ask:
			_ = h.Forward(name, a.Name) // without an answer, the keeper gives up
		case keeper.Ping:
			_ = h.Beat(name)
		}
	}
}

func (h *Home) connect(name string) {
	d := h.devices[name]
	if err := h.Join(name, d.tenant); err != nil {
		d.lose()
	}
}
