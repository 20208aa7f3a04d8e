// Package client: one that reads and writes, and leans on what it read as long as it may.
package client

import (
	"tenure/api"
	"tenure/cache"
	"tenure/clock"
	"tenure/wire"
)

// soon is how long a lease of the volume lasts, at most, when the client asks for the next one: so that it is not over behind one round of a calm.
const soon = 2

// lender is who gave leases: an epoch of the server, and a session in it. With another one they are worth nothing.
type lender struct{ epoch, session int }

// Client has a call at a time, and what it may lean on. All its times are its own clock's.
type Client struct {
	id             int
	object, volume int // how long a lease surely lasts

	number int // of the last call
	call   api.Call
	sent   int // when the call was sent first
	coming int // the version of the call's object that was announced meanwhile

	renewal int // the number of the last Renew
	asked   int // when it was sent
	lender  lender
	until   int // of the volume
	kept    cache.Cache
	seen    map[int]int // by object, the version
}

// New is a client of that id, which no other one ever has. Of terms that may not be it leans on nothing.
func New(t api.Terms, id int) *Client {
	object, _ := clock.Short(t.Drift, t.Object)
	volume, _ := clock.Short(t.Drift, t.Volume)
	return &Client{id: id, object: object, volume: volume, seen: map[int]int{}}
}

// Read begins to read an object; it is over at once, if the client may lean on what it has. ErrState: a call is not over; ErrRange: no such object.
func (c *Client) Read(object, now int) error {
	if err := c.free(object); err != nil {
		return err
	}
	c.begin(api.Call{Kind: api.Reads, Object: object}, now)
	if v, ok := c.has(object, now); ok {
		c.call.Hit = true
		c.over(v)
	}
	return nil
}

// Write begins to write an object. ErrState; ErrRange; ErrLimit: more than MaxData bytes.
func (c *Client) Write(object int, data string, now int) error {
	if err := c.free(object); err != nil {
		return err
	}
	if len(data) > api.MaxData {
		return api.ErrLimit
	}
	c.begin(api.Call{Kind: api.Writes, Object: object, Value: api.Value{Data: data}}, now)
	return nil
}

// Call is the last one, over or not.
func (c *Client) Call() api.Call { return c.call }

// Again is what is to be sent (once more): the volume is asked for, if its lease is over soon, and the call, if it is not answered.
func (c *Client) Again(now int) []wire.Msg {
	var out []wire.Msg
	if c.until <= now+soon {
		out = append(out, c.renew(now))
	}
	if c.open() {
		out = append(out, c.request())
	}
	return out
}

// Hear takes a message of the server's: what is to be sent by that.
func (c *Client) Hear(m wire.Msg) []wire.Msg {
	switch {
	case m.Kind == wire.Inval:
		return c.forget(m)
	case m.Client != c.id:
		// It is for one that was here before.
	case m.Kind == wire.Granted && m.Number == c.renewal:
		c.granted(lender{m.Epoch, m.Session})
	case m.Kind == wire.Flush && m.Number == c.renewal:
		c.flush(lender{m.Epoch, m.Session})
	case m.Kind == wire.Value && c.waits(api.Reads, m.Number):
		c.read(m)
	case m.Kind == wire.Done && c.waits(api.Writes, m.Number):
		c.over(api.Value{Data: c.call.Value.Data, Version: m.Version})
	}
	return nil
}

// open says whether there is a call that is not over.
func (c *Client) open() bool { return c.call.Kind != 0 && !c.call.Over }

// waits says whether the call of that kind, and number, is open.
func (c *Client) waits(kind, number int) bool {
	return c.open() && c.call.Kind == kind && c.number == number
}

// free says whether a call of that object may begin.
func (c *Client) free(object int) error {
	if c.open() {
		return api.ErrState
	}
	if object < 0 || object >= api.MaxObjects {
		return api.ErrRange
	}
	return nil
}

// begin lets a call begin, by the next number: so what answers an earlier one is never taken for this one's answer.
func (c *Client) begin(call api.Call, now int) {
	c.number++
	c.call, c.sent, c.coming = call, now, 0
}

// over ends the call.
func (c *Client) over(v api.Value) {
	c.call.Value, c.call.Over = v, true
	c.seen[c.call.Object] = max(c.seen[c.call.Object], v.Version)
}

// request is the message of the call.
func (c *Client) request() wire.Msg {
	m := wire.Msg{Kind: wire.Read, Client: c.id, Number: c.number, Object: c.call.Object}
	if c.call.Kind == api.Writes {
		m.Kind, m.Data = wire.Write, c.call.Value.Data
	}
	return m
}

// renew asks for the volume. Each Renew has a number of its own, and only the last one's answer counts: so it is known when that was sent.
func (c *Client) renew(now int) wire.Msg {
	c.renewal++
	c.asked = now
	return wire.Msg{Kind: wire.Renew, Client: c.id, Number: c.renewal, Epoch: c.lender.epoch, Session: c.lender.session}
}

// granted takes a lease of the volume. It lasts from when it was asked for: the server gave it later than that.
func (c *Client) granted(from lender) {
	if from == c.lender {
		c.until = c.asked + c.volume
	}
}

// flush drops all leases that another lender gave.
func (c *Client) flush(from lender) {
	if from != c.lender {
		c.lender, c.until = from, 0
		c.kept.Clear()
	}
}

// has is an object's value, if the client may lean on it now: both leases last, and it has not seen a later one.
func (c *Client) has(object, now int) (api.Value, bool) {
	v, until, err := c.kept.Get(object)
	if err != nil || until <= now || c.until <= now || v.Version < c.seen[object] {
		return api.Value{}, false
	}
	return v, true
}

// read ends a Read, and keeps what came, if it is lent. What was seen already never goes back.
func (c *Client) read(m wire.Msg) {
	v := api.Value{Data: m.Data, Version: m.Version}
	if v.Version < c.seen[c.call.Object] {
		return
	}
	// What is older than what was announced is not leaned on: the server was told so.
	if m.Lease && v.Version >= c.coming && c.lender == (lender{m.Epoch, m.Session}) {
		c.kept.Put(c.call.Object, v, c.sent+c.object)
	}
	c.over(v)
}

// forget drops an object that will have another version, and says so. What was lent of it, and is still under way, won't be leaned on.
func (c *Client) forget(m wire.Msg) []wire.Msg {
	c.kept.Drop(m.Object)
	if c.open() && c.call.Object == m.Object {
		c.coming = max(c.coming, m.Version)
	}
	return []wire.Msg{{Kind: wire.Ack, Client: c.id, Epoch: m.Epoch, Object: m.Object, Version: m.Version}}
}
