package relay

import (
	"slices"

	"speakeasy/conn"
	"speakeasy/lease"
	"speakeasy/wire"
)

// The reasons for which a channel is rejected.
const (
	connectFailed = 2
	shortage      = 4
)

// process processes an event of a connection.
func (r *Relay) process(l *link, e conn.Event) {
	switch e.Kind {
	case conn.Forward:
		r.forward(l, e)
	case conn.Cancel:
		r.cancel(l, e)
	case conn.Beat:
		r.leases.Beat(l.number, r.clock)
		answer(l, e, true, "")
	case conn.Dial:
		r.dial(l, e)
	case conn.Confirmed:
		r.confirm(l, e)
	case conn.Failed:
		r.fail(l, e)
	case conn.Came, conn.Ended, conn.Closed:
		r.pass(l, e)
	case conn.Gone:
		r.retire(l)
	}
}

// answer answers a request, if an answer is wanted.
func answer(l *link, e conn.Event, ok bool, rest string) {
	if e.Want {
		l.Answer(ok, rest)
	}
}

// forward leases a name to a device. The streams of the lease that is replaced are
// those of another device; if there is no such lease, there are none.
func (r *Relay) forward(l *link, e conn.Event) {
	tenant, _ := l.Who()
	old, _ := r.leases.Find(tenant, e.Word)
	if _, _, err := r.leases.Take(tenant, e.Word, l.number, r.clock); err != nil {
		answer(l, e, false, "")
		return
	}
	rest := ""
	if e.Port == 0 { // such a request asks for a port
		rest = new(wire.Out).U32(e.Port).Bytes()
	}
	answer(l, e, true, rest)
	r.release([]lease.Lease{old})
}

// cancel takes a name from a device.
func (r *Relay) cancel(l *link, e conn.Event) {
	tenant, _ := l.Who()
	old, err := r.leases.Cancel(tenant, e.Word, l.number)
	if err != nil {
		answer(l, e, false, "")
		return
	}
	answer(l, e, true, "")
	r.release([]lease.Lease{old})
}

// dial creates a stream from a client to the device that has leased a name.
func (r *Relay) dial(client *link, e conn.Event) {
	tenant, _ := client.Who()
	held, err := r.leases.Find(tenant, e.Word)
	if err != nil {
		_ = client.Reject(e.Channel, connectFailed)
		return
	}
	if r.count(tenant) >= r.config.Streams {
		_ = client.Reject(e.Channel, shortage)
		return
	}
	device := r.links[held.Owner]
	to, err := device.Open(e.Word, e.Port, client.number)
	if err != nil {
		_ = client.Reject(e.Channel, shortage)
		return
	}
	r.streams = append(r.streams, &stream{
		Stream: Stream{
			Tenant: tenant, Alias: held.Alias, Epoch: held.Epoch,
			Client: client.number, From: e.Channel,
			Device: device.number, To: to,
		},
		client: end{link: client, channel: e.Channel},
		device: end{link: device, channel: to},
		born:   r.feeds,
	})
}

// count returns the number of streams of a tenant.
func (r *Relay) count(tenant string) int {
	n := 0
	for _, s := range r.streams {
		if s.Tenant == tenant {
			n++
		}
	}
	return n
}

// confirm opens the stream for which a device has accepted a channel. If there is
// none any more, the channel is of no use.
func (r *Relay) confirm(l *link, e conn.Event) {
	s, _ := r.find(l, e.Channel)
	if s == nil {
		_ = l.Close(e.Channel)
		return
	}
	_ = s.client.Accept(s.client.channel)
	s.Open = true
}

// fail removes the stream for which a device has refused a channel.
func (r *Relay) fail(l *link, e conn.Event) {
	s, _ := r.find(l, e.Channel)
	if s == nil {
		return
	}
	_ = s.client.Reject(s.client.channel, e.Reason)
	r.drop(s)
}

// pass lets a stream go on, or end, with what was received at one of its ends.
func (r *Relay) pass(l *link, e conn.Event) {
	s, from := r.find(l, e.Channel)
	if s == nil {
		return
	}
	switch e.Kind {
	case conn.Ended:
		from.ended = true
	case conn.Closed:
		from.closed = true
	}
	s.move()
	if from.closed {
		r.drop(s)
	}
}

// find returns the stream to which an event of a channel belongs, and the end of it.
// A stream that this very call of Feed has created is not meant by any event of it:
// its channel to the device is younger than these events, and may have the number of
// one that they are about.
func (r *Relay) find(l *link, channel int) (*stream, *end) {
	for _, s := range r.streams {
		if s.born == r.feeds {
			continue
		}
		if s.client.is(l, channel) {
			return s, &s.client
		}
		if s.device.is(l, channel) {
			return s, &s.device
		}
	}
	return nil, nil
}

// drop removes a stream whose channels need nothing more.
func (r *Relay) drop(gone *stream) {
	r.streams = slices.DeleteFunc(r.streams, func(s *stream) bool { return s == gone })
}
