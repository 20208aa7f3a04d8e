// Package server: one that has all values, on a disk, and lends them.
package server

import (
	"slices"

	"tenure/api"
	"tenure/lease"
	"tenure/wal"
	"tenure/wire"
)

// Server has values, and knows who may lean on them. All its times are its own clock's.
type Server struct {
	terms  api.Terms
	log    *wal.Wal
	torn   int // how many bytes of a record are written when the power is off
	epoch  int
	ready  int // from then on no lease of an earlier epoch lasts
	values [api.MaxObjects]api.Value
	last   [api.MaxClients]wal.Record // by seat, the last write that is done
	leases *lease.Table
	waits  [api.MaxObjects][]wire.Msg // by object, writes that are not done
}

// Seat is a client's, by its id: those that are in one seat, one after the other, have ids that rise by MaxClients.
func Seat(id int) int { return id % api.MaxClients }

// New begins a server, of the next epoch, with what a disk has. wal.Open's errors; wal.Add's, but not ErrFull.
func New(d *wal.Disk, t api.Terms, now int) (*Server, error) {
	log, err := wal.Open(d)
	if err != nil {
		return nil, err
	}
	s := &Server{terms: t, log: log, leases: lease.New()}
	for _, r := range log.Records() {
		s.apply(r)
	}
	if s.epoch > 0 {
		s.ready = now + t.Volume
	}
	s.epoch++
	// Without room no write will be done any more: so it is no matter that the next server will be of this epoch, too.
	err = log.Add(wal.Record{Object: -1, Epoch: s.epoch}, 0)
	if err != nil && api.Tell(err) != api.ErrFull {
		return nil, err
	}
	return s, nil
}

// Tear says how many bytes of a record are written when the power is off.
func (s *Server) Tear(torn int) { s.torn = torn }

// Down says whether the power failed it: then it does nothing any more.
func (s *Server) Down() bool { return s.log.Down() }

// Value is an object's. ErrRange: no such object.
func (s *Server) Value(object int) (api.Value, error) {
	if !isObject(object) {
		return api.Value{}, api.ErrRange
	}
	return s.values[object], nil
}

// Hear takes a message of a client's: what is to be sent by that, to seats.
func (s *Server) Hear(m wire.Msg, now int) []wire.Msg {
	if s.Down() || m.Client < 0 || !isObject(m.Object) {
		return nil
	}
	switch m.Kind {
	case wire.Read:
		return s.read(m, now)
	case wire.Write:
		return s.write(m, now)
	case wire.Renew:
		return s.renew(m, now)
	case wire.Ack:
		return s.release(m, now)
	}
	return nil
}

// Tick says that the clock went on: what is to be sent by that.
func (s *Server) Tick(now int) []wire.Msg {
	var out []wire.Msg
	for object := range s.waits {
		out = append(out, s.advance(object, now)...)
	}
	return out
}

// read tells a value, and lends it, unless a write waits: that one would have to wait for this client, too.
func (s *Server) read(m wire.Msg, now int) []wire.Msg {
	v := s.values[m.Object]
	a := s.answer(wire.Value, m)
	a.Object, a.Version, a.Data = m.Object, v.Version, v.Data
	a.Lease = len(s.waits[m.Object]) == 0 && s.leases.Object(Seat(m.Client), m.Object, now+s.terms.Object) == nil
	return []wire.Msg{a}
}

// renew lends the volume, if the client knows the session; else it has to drop what it has first. One for whom a write waits is told so once more, and has no more time: so no write waits for longer than Volume.
func (s *Server) renew(m wire.Msg, now int) []wire.Msg {
	if out := s.remind(Seat(m.Client), now); len(out) > 0 {
		return out
	}
	a := s.answer(wire.Granted, m)
	if m.Epoch != a.Epoch || m.Session != a.Session || s.leases.Volume(Seat(m.Client), now+s.terms.Volume) != nil {
		a.Kind = wire.Flush
	}
	return []wire.Msg{a}
}

// write lets a write wait, unless it is done already, or a later one of its seat is, or too many wait; and tells those that lean on its object (once more).
func (s *Server) write(m wire.Msg, now int) []wire.Msg {
	last := s.last[Seat(m.Client)]
	if m.Client == last.Client && m.Number == last.Number {
		return []wire.Msg{s.done(m, last.Version)}
	}
	if !later(m.Client, m.Number, last) || !s.enqueue(m) {
		return nil
	}
	out := s.advance(m.Object, now)
	for _, seat := range s.awaited(m.Object, now) {
		out = append(out, s.inval(seat, m.Object))
	}
	return out
}

// release takes a holder's word that it doesn't lean on an object any more. Of another epoch, or version, it says nothing: what was lent since then is leaned on.
func (s *Server) release(m wire.Msg, now int) []wire.Msg {
	if m.Epoch != s.epoch || m.Version != s.values[m.Object].Version+1 {
		return nil
	}
	s.leases.Drop(Seat(m.Client), m.Object)
	return s.advance(m.Object, now)
}

// answer is the beginning of a message to a client that asked.
func (s *Server) answer(kind int, m wire.Msg) wire.Msg {
	session, _ := s.leases.Session(Seat(m.Client))
	return wire.Msg{Kind: kind, Client: m.Client, Number: m.Number, Epoch: s.epoch, Session: session}
}

// done answers a write.
func (s *Server) done(m wire.Msg, version int) wire.Msg {
	a := s.answer(wire.Done, m)
	a.Object, a.Version = m.Object, version
	return a
}

// inval tells whoever is in a seat which version of an object is to come.
func (s *Server) inval(seat, object int) wire.Msg {
	return wire.Msg{Kind: wire.Inval, Client: seat, Epoch: s.epoch, Object: object, Version: s.values[object].Version + 1}
}

// remind tells a seat of all objects on which a write waits for it.
func (s *Server) remind(seat, now int) []wire.Msg {
	var out []wire.Msg
	for object := range s.waits {
		if slices.Contains(s.awaited(object, now), seat) {
			out = append(out, s.inval(seat, object))
		}
	}
	return out
}

// enqueue lets a write wait behind the others, once; false: there is no room.
func (s *Server) enqueue(m wire.Msg) bool {
	waits := s.waits[m.Object]
	if slices.ContainsFunc(waits, func(w wire.Msg) bool { return w.Client == m.Client && w.Number == m.Number }) {
		return true
	}
	if len(waits) >= api.MaxQueue {
		return false
	}
	s.waits[m.Object] = append(waits, m)
	return true
}

// awaited are the seats for which a write of an object waits. A holder whose lease of the volume is over is not waited for, but flushed: it won't have the volume again without dropping what it has.
func (s *Server) awaited(object, now int) []int {
	if s.Down() || len(s.waits[object]) == 0 {
		return nil
	}
	var l []int
	for _, seat := range s.leases.Holders(object, now) {
		if s.leases.Leans(seat, now) {
			l = append(l, seat)
		} else {
			_ = s.leases.Flush(seat)
		}
	}
	return l
}

// advance does the writes of an object that need not wait any more.
func (s *Server) advance(object, now int) []wire.Msg {
	var out []wire.Msg
	for len(s.waits[object]) > 0 && now >= s.ready && len(s.awaited(object, now)) == 0 {
		m := s.waits[object][0]
		version, ok := s.commit(m)
		if !ok {
			break
		}
		s.waits[object] = slices.Delete(s.waits[object], 0, 1)
		out = append(out, s.done(m, version))
	}
	return out
}

// commit does a write: its version (0: there is no room on the disk); false: the power is off.
func (s *Server) commit(m wire.Msg) (int, bool) {
	r := wal.Record{Client: m.Client, Number: m.Number, Object: m.Object, Version: s.values[m.Object].Version + 1, Data: m.Data}
	if s.log.Add(r, s.torn) != nil {
		return 0, !s.Down()
	}
	s.apply(r)
	return r.Version, true
}

// apply takes a record that is on the disk.
func (s *Server) apply(r wal.Record) {
	if r.Object < 0 {
		s.epoch = r.Epoch
		return
	}
	s.values[r.Object] = api.Value{Data: r.Data, Version: r.Version}
	// One that was here before may have written behind one that is here now.
	if last := &s.last[Seat(r.Client)]; later(r.Client, r.Number, *last) {
		*last = r
	}
}

// later says whether a client's call came behind that of a record of the same seat.
func later(client, number int, r wal.Record) bool {
	return client > r.Client || client == r.Client && number > r.Number
}

func isObject(n int) bool { return n >= 0 && n < api.MaxObjects }
