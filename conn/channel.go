package conn

import (
	"speakeasy/api"
	"speakeasy/wire"
)

const mostBuffer = 1 << 24 // bytes that a channel can queue, whatever is configured

// Open asks the other end for a channel to the alias that it has leased; from tells
// who dials.
func (c *Conn) Open(alias string, port uint32, from int) (int, error) {
	if !c.entered() || c.Gone() {
		return 0, api.ErrState
	}
	var o wire.Out
	o.Text(alias).U32(port).Text("client").U32(uint32(from))
	return c.mux.Open("forwarded-tcpip", o.Bytes())
}

// Accept opens a channel for which the other end has asked.
func (c *Conn) Accept(n int) error { return c.mux.Accept(n) }

// Reject refuses such a channel.
func (c *Conn) Reject(n int, reason uint32) error { return c.mux.Reject(n, reason, "") }

// Write appends s to the bytes to be sent on a channel.
func (c *Conn) Write(n int, s string) error { return c.mux.Write(n, s) }

// Read returns at most most of the bytes received on a channel.
func (c *Conn) Read(n, most int) (string, error) { return c.mux.Read(n, most) }

// EOF requests that no bytes follow those that have been written.
func (c *Conn) EOF(n int) error { return c.mux.EOF(n) }

// Close requests that a channel be closed behind the bytes that have been written.
func (c *Conn) Close(n int) error { return c.mux.Close(n) }

// Room returns how many bytes Write accepts.
func (c *Conn) Room(n int) int {
	if c.Write(n, "") != nil {
		return 0
	}
	queued, _ := c.Waits(n)
	return min(max(c.config.Mux.Buffer, 1), mostBuffer) - queued
}

// Waits returns how many bytes are queued for sending, and how many that were
// received have not been read.
func (c *Conn) Waits(n int) (int, int) { return c.mux.Waits(n) }
