package relay

import (
	"slices"

	"speakeasy/lease"
)

// Stream is a stream from a client's channel to a device's one, and the lease by
// which it was created.
type Stream struct {
	Tenant, Alias                   string
	Epoch, Client, From, Device, To int
	Open                            bool
}

// stream is a Stream with its two ends.
type stream struct {
	Stream
	client, device end
	born           int // the call of Feed that created it
}

// end is a channel of a stream, and what was reported of it.
type end struct {
	*link
	channel       int
	ended, closed bool
}

func (e *end) is(l *link, channel int) bool { return e.link == l && e.channel == channel }

// moveAll moves all streams.
func (r *Relay) moveAll() {
	for _, s := range r.streams {
		s.move()
	}
}

// move forwards in both directions, unless the stream is waiting for its device.
func (s *stream) move() {
	if s.Open {
		carry(&s.client, &s.device)
		carry(&s.device, &s.client)
	}
}

// carry forwards the bytes for which there is room, and behind the last one what
// else was reported. What a channel no longer accepts, such as a second EOF, is lost.
func carry(from, to *end) {
	part, _ := from.Read(from.channel, to.Room(to.channel))
	_ = to.Write(to.channel, part)
	if _, unread := from.Waits(from.channel); from.ended && unread == 0 {
		_ = to.EOF(to.channel)
	}
	if from.closed {
		_ = to.Close(to.channel)
	}
}

// release tears down the streams of leases that are no more.
func (r *Relay) release(gone []lease.Lease) {
	for _, l := range gone {
		r.tearDown(func(s *stream) bool { return s.Epoch == l.Epoch })
	}
}

// tearDown removes streams, and closes their channels.
func (r *Relay) tearDown(gone func(*stream) bool) {
	r.streams = slices.DeleteFunc(r.streams, func(s *stream) bool {
		if !gone(s) {
			return false
		}
		s.tearDown()
		return true
	})
}

// tearDown closes both channels; the client's one may still be waiting.
func (s *stream) tearDown() {
	if !s.Open {
		_ = s.client.Reject(s.client.channel, connectFailed)
		return
	}
	_ = s.client.Close(s.client.channel)
	_ = s.device.Close(s.device.channel)
}
