package client

import (
	"math"
	"slices"
	"strings"
	"testing"

	"tenure/api"
	"tenure/plain"
	"tenure/wire"
)

// id is that of the client of these tests: the second life of seat 1.
const id = 5

// terms: without drift, so that leases last just so long.
func terms() api.Terms { return api.Terms{Object: 20, Volume: 8} }

// is: an error is that one, without a place.
func is(t *testing.T, what string, err error, want api.Errno) {
	t.Helper()
	if e, bare := plain.Bare(err); e != want || !bare {
		t.Fatalf("%s: error %d, not %d", what, e, want)
	}
}

// sends: these messages.
func sends(t *testing.T, got []wire.Msg, want ...wire.Msg) {
	t.Helper()
	if !slices.Equal(got, want) {
		t.Fatalf("it sends %+v, not %+v", got, want)
	}
}

// call: the last one is that.
func call(t *testing.T, c *Client, want api.Call) {
	t.Helper()
	if c.Call() != want {
		t.Fatalf("the call is %+v, not %+v", c.Call(), want)
	}
}

// value answers the call of that number.
func value(number, object, version int, data string) wire.Msg {
	return wire.Msg{Kind: wire.Value, Client: id, Number: number, Epoch: 3, Session: 1, Object: object, Version: version, Lease: true, Data: data}
}

// granted answers a Renew.
func granted(number int) wire.Msg {
	return wire.Msg{Kind: wire.Granted, Client: id, Number: number, Epoch: 3, Session: 1}
}

// flushed answers a Renew otherwise.
func flushed(number, epoch, session int) wire.Msg {
	return wire.Msg{Kind: wire.Flush, Client: id, Number: number, Epoch: epoch, Session: session}
}

// inval announces a version.
func inval(object, version int) wire.Msg {
	return wire.Msg{Kind: wire.Inval, Client: 1, Epoch: 3, Object: object, Version: version}
}

// known: a client that knows the session, and has the volume until 108 (its second Renew was at 100).
func known(t *testing.T) *Client {
	t.Helper()
	c := New(terms(), id)
	sends(t, c.Again(100), wire.Msg{Kind: wire.Renew, Client: id, Number: 1})
	sends(t, c.Hear(flushed(1, 3, 1)))
	sends(t, c.Again(100), wire.Msg{Kind: wire.Renew, Client: id, Number: 2, Epoch: 3, Session: 1})
	sends(t, c.Hear(granted(2)))
	return c
}

// leaning: a client that has read object 2 at 100 (its first call), and may lean on it.
func leaning(t *testing.T) *Client {
	t.Helper()
	c := known(t)
	is(t, "Read", c.Read(2, 100), api.OK)
	sends(t, c.Again(100), wire.Msg{Kind: wire.Read, Client: id, Number: 1, Object: 2})
	sends(t, c.Hear(value(1, 2, 4, "a")))
	call(t, c, api.Call{Kind: api.Reads, Object: 2, Value: api.Value{Data: "a", Version: 4}, Over: true})
	return c
}

// hit: a Read is over at once, and tells that; or it is not.
func hit(t *testing.T, c *Client, object, now int, want bool) {
	t.Helper()
	is(t, "Read", c.Read(object, now), api.OK)
	if got := c.Call(); got.Hit != want || got.Over != want {
		t.Fatalf("Read(%d, %d): %+v, hit is to be %v", object, now, got, want)
	}
}

// TestErrors: which is told first; and nothing begins then.
func TestErrors(t *testing.T) {
	c := New(terms(), id)
	long := strings.Repeat("x", api.MaxData+1)
	for _, object := range []int{-1, api.MaxObjects, math.MinInt, math.MaxInt} {
		is(t, "Read", c.Read(object, 0), api.ErrRange)
		is(t, "Write", c.Write(object, long, 0), api.ErrRange)
	}
	is(t, "Write", c.Write(0, long, 0), api.ErrLimit)
	call(t, c, api.Call{})
	is(t, "Write", c.Write(api.MaxObjects-1, long[1:], 0), api.OK)
	open := api.Call{Kind: api.Writes, Object: api.MaxObjects - 1, Value: api.Value{Data: long[1:]}}
	is(t, "Read", c.Read(-1, 0), api.ErrState)
	is(t, "Write", c.Write(-1, long, 0), api.ErrState)
	call(t, c, open)
}

// TestAgain: what is not answered, and the volume when its lease is over soon.
func TestAgain(t *testing.T) {
	c := known(t)
	sends(t, c.Again(105))
	sends(t, c.Again(106), wire.Msg{Kind: wire.Renew, Client: id, Number: 3, Epoch: 3, Session: 1})
	is(t, "Write", c.Write(2, "b", 105), api.OK)
	write := wire.Msg{Kind: wire.Write, Client: id, Number: 1, Object: 2, Data: "b"}
	sends(t, c.Again(105), write)
	sends(t, c.Again(107), wire.Msg{Kind: wire.Renew, Client: id, Number: 4, Epoch: 3, Session: 1}, write)
	sends(t, c.Hear(wire.Msg{Kind: wire.Done, Client: id, Number: 1, Object: 2, Version: 9}))
	sends(t, c.Again(105))
	call(t, c, api.Call{Kind: api.Writes, Object: 2, Value: api.Value{Data: "b", Version: 9}, Over: true})
}

// TestHit: as long as both leases last, by when they were asked for.
func TestHit(t *testing.T) {
	c := leaning(t)
	hit(t, c, 2, 107, true)
	call(t, c, api.Call{Kind: api.Reads, Object: 2, Value: api.Value{Data: "a", Version: 4}, Over: true, Hit: true})
	hit(t, c, 2, 108, false)
	c = leaning(t)
	_ = c.Again(115)
	_ = c.Hear(granted(3))
	hit(t, c, 2, 119, true)
	hit(t, c, 2, 120, false)
	c = leaning(t)
	hit(t, c, 3, 101, false)
}

// TestLateAnswer: leases last from when they were asked for, however late they come.
func TestLateAnswer(t *testing.T) {
	c := known(t)
	is(t, "Read", c.Read(2, 100), api.OK)
	_ = c.Again(112)
	_ = c.Again(113)
	sends(t, c.Hear(granted(3)))
	sends(t, c.Hear(value(1, 2, 4, "a")))
	hit(t, c, 2, 113, false)
	sends(t, c.Hear(value(2, 2, 4, "a")))
	sends(t, c.Hear(granted(4)))
	hit(t, c, 2, 120, true)
	hit(t, c, 2, 121, false)
	c = known(t)
	is(t, "Read", c.Read(2, 100), api.OK)
	_ = c.Again(115)
	sends(t, c.Hear(granted(3)))
	sends(t, c.Hear(value(1, 2, 4, "a")))
	hit(t, c, 2, 119, true)
	hit(t, c, 2, 120, false)
}

// TestDrift: by the Shorts of the terms.
func TestDrift(t *testing.T) {
	c := New(api.Terms{Object: 1100, Volume: 110, Drift: 100}, id)
	_ = c.Again(0)
	_ = c.Hear(flushed(1, 3, 1))
	_ = c.Again(0)
	_ = c.Hear(granted(2))
	is(t, "Read", c.Read(2, 0), api.OK)
	_ = c.Hear(value(1, 2, 4, "a"))
	hit(t, c, 2, 89, true)
	_ = c.Again(850)
	_ = c.Hear(granted(3))
	hit(t, c, 2, 899, true)
	hit(t, c, 2, 900, false)
	c = New(api.Terms{Object: -1, Volume: api.MaxTime + 1}, id)
	_ = c.Again(0)
	_ = c.Hear(flushed(1, 3, 1))
	_ = c.Again(0)
	_ = c.Hear(granted(2))
	is(t, "Read", c.Read(2, 0), api.OK)
	_ = c.Hear(value(1, 2, 4, "a"))
	hit(t, c, 2, 0, false)
}

// TestOthersAnswers: what answers another call, or another one's, or a call of the other kind, ends none.
func TestOthersAnswers(t *testing.T) {
	c := leaning(t)
	is(t, "Read", c.Read(3, 101), api.OK)
	open := api.Call{Kind: api.Reads, Object: 3}
	for _, m := range []wire.Msg{
		value(1, 3, 7, "x"), value(3, 3, 7, "x"),
		{Kind: wire.Value, Client: 1, Number: 2, Object: 3, Version: 7}, {Kind: wire.Value, Client: 9, Number: 2, Object: 3, Version: 7},
		{Kind: wire.Done, Client: id, Number: 2, Object: 3, Version: 7}, {Kind: wire.Read, Client: id, Number: 2, Object: 3}, {},
	} {
		sends(t, c.Hear(m))
		call(t, c, open)
	}
	sends(t, c.Hear(value(2, 3, 7, "x")))
	is(t, "Write", c.Write(3, "y", 101), api.OK)
	sends(t, c.Hear(value(3, 3, 8, "z")))
	sends(t, c.Hear(wire.Msg{Kind: wire.Done, Client: 1, Number: 3, Object: 3, Version: 8}))
	call(t, c, api.Call{Kind: api.Writes, Object: 3, Value: api.Value{Data: "y"}})
	sends(t, c.Hear(wire.Msg{Kind: wire.Done, Client: id, Number: 3, Object: 3}))
	call(t, c, api.Call{Kind: api.Writes, Object: 3, Value: api.Value{Data: "y"}, Over: true})
	sends(t, c.Hear(wire.Msg{Kind: wire.Done, Client: id, Number: 3, Object: 3, Version: 8}))
	call(t, c, api.Call{Kind: api.Writes, Object: 3, Value: api.Value{Data: "y"}, Over: true})
}

// TestOthersLeases: of a Renew that is not the last one, of another one, of another session no lease is taken.
func TestOthersLeases(t *testing.T) {
	for _, m := range []wire.Msg{
		granted(2), granted(4),
		{Kind: wire.Granted, Client: 1, Number: 3, Epoch: 3, Session: 1},
		{Kind: wire.Granted, Client: id, Number: 3, Epoch: 2, Session: 1},
		{Kind: wire.Granted, Client: id, Number: 3, Epoch: 3, Session: 2},
	} {
		c := leaning(t)
		_ = c.Again(107)
		sends(t, c.Hear(m))
		hit(t, c, 2, 108, false)
	}
	c := leaning(t)
	_ = c.Again(107)
	sends(t, c.Hear(granted(3)))
	hit(t, c, 2, 108, true)
}

// TestFlush: nothing is leaned on any more, until the volume is granted in the new session.
func TestFlush(t *testing.T) {
	for _, m := range []wire.Msg{flushed(3, 4, 0), flushed(3, 3, 2)} {
		c := leaning(t)
		_ = c.Again(107)
		sends(t, c.Hear(m))
		hit(t, c, 2, 107, false)
		lent := value(2, 2, 4, "a")
		lent.Epoch, lent.Session = m.Epoch, m.Session
		sends(t, c.Hear(lent))
		hit(t, c, 2, 107, false)
		sends(t, c.Hear(wire.Msg{Kind: wire.Value, Client: id, Number: 3, Object: 2, Version: 4, Data: "a"}))
		renew := wire.Msg{Kind: wire.Renew, Client: id, Number: 4, Epoch: m.Epoch, Session: m.Session}
		sends(t, c.Again(107), renew)
		renew.Kind = wire.Granted
		sends(t, c.Hear(renew))
		hit(t, c, 2, 107, true)
	}
}

// TestOthersFlush: of a Renew that is not the last one, of another one, of the session that it knows nothing is dropped.
func TestOthersFlush(t *testing.T) {
	c := leaning(t)
	_ = c.Again(107)
	for _, m := range []wire.Msg{flushed(2, 4, 0), flushed(4, 4, 0), flushed(3, 3, 1), {Kind: wire.Flush, Client: 1, Number: 3, Epoch: 4}} {
		sends(t, c.Hear(m))
		hit(t, c, 2, 107, true)
	}
}

// TestValueOfAnotherSession: it is told, and not leaned on; nor is what is not lent.
func TestValueOfAnotherSession(t *testing.T) {
	for _, change := range []func(m *wire.Msg){
		func(m *wire.Msg) { m.Epoch = 2 }, func(m *wire.Msg) { m.Epoch = 4 },
		func(m *wire.Msg) { m.Session = 0 }, func(m *wire.Msg) { m.Lease = false },
	} {
		c := known(t)
		is(t, "Read", c.Read(2, 100), api.OK)
		m := value(1, 2, 4, "a")
		change(&m)
		sends(t, c.Hear(m))
		call(t, c, api.Call{Kind: api.Reads, Object: 2, Value: api.Value{Data: "a", Version: 4}, Over: true})
		hit(t, c, 2, 100, false)
	}
}

// TestInval: it is dropped, and acknowledged, whatever was there.
func TestInval(t *testing.T) {
	c := leaning(t)
	ack := wire.Msg{Kind: wire.Ack, Client: id, Epoch: 3, Object: 2, Version: 5}
	sends(t, c.Hear(inval(2, 5)), ack)
	hit(t, c, 2, 101, false)
	sends(t, c.Hear(inval(2, 5)), ack)
	sends(t, New(terms(), id).Hear(inval(2, 5)), ack)
	c = leaning(t)
	ack.Object = 3
	sends(t, c.Hear(inval(3, 5)), ack)
	hit(t, c, 2, 101, true)
}

// TestInvalOvertakes: what was lent, and is overtaken, is told, but not leaned on; what is not older is.
func TestInvalOvertakes(t *testing.T) {
	for _, version := range []int{4, 5, 6} {
		c := known(t)
		is(t, "Read", c.Read(2, 100), api.OK)
		_ = c.Hear(inval(2, 5))
		_ = c.Hear(inval(2, 3))
		_ = c.Hear(inval(3, 9))
		sends(t, c.Hear(value(1, 2, version, "a")))
		call(t, c, api.Call{Kind: api.Reads, Object: 2, Value: api.Value{Data: "a", Version: version}, Over: true})
		hit(t, c, 2, 100, version >= 5)
	}
	c := known(t)
	_ = c.Hear(inval(2, 5)) // there is no call yet
	is(t, "Read", c.Read(2, 100), api.OK)
	_ = c.Hear(value(1, 2, 4, "a"))
	hit(t, c, 2, 100, true)
}

// TestNeverBack: what was seen, read or written, is not followed by what is older.
func TestNeverBack(t *testing.T) {
	c := leaning(t)
	is(t, "Write", c.Write(2, "b", 101), api.OK)
	_ = c.Hear(wire.Msg{Kind: wire.Done, Client: id, Number: 2, Object: 2, Version: 6})
	hit(t, c, 2, 101, false)
	open := c.Call()
	sends(t, c.Hear(value(3, 2, 5, "old")))
	call(t, c, open)
	sends(t, c.Hear(value(3, 2, 6, "b")))
	hit(t, c, 2, 101, true)
	c = leaning(t)
	is(t, "Write", c.Write(3, "b", 101), api.OK)
	_ = c.Hear(wire.Msg{Kind: wire.Done, Client: id, Number: 2, Object: 3, Version: 6})
	hit(t, c, 2, 101, true)
}
