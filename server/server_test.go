package server

import (
	"math"
	"slices"
	"strconv"
	"testing"

	"tenure/api"
	"tenure/plain"
	"tenure/wal"
	"tenure/wire"
)

func terms() api.Terms { return api.Terms{Object: 20, Volume: 8} }

// is: an error is that one, without a place.
func is(t *testing.T, what string, err error, want api.Errno) {
	t.Helper()
	if e, bare := plain.Bare(err); e != want || !bare {
		t.Fatalf("%s: error %d, not %d", what, e, want)
	}
}

// begun: a server over a disk.
func begun(t *testing.T, d *wal.Disk, now int) *Server {
	t.Helper()
	s, err := New(d, terms(), now)
	is(t, "New", err, api.OK)
	return s
}

// sends: these messages.
func sends(t *testing.T, got []wire.Msg, want ...wire.Msg) {
	t.Helper()
	if !slices.Equal(got, want) {
		t.Fatalf("it sends %+v, not %+v", got, want)
	}
}

// has: the object is that.
func has(t *testing.T, s *Server, object int, data string, version int) {
	t.Helper()
	v, err := s.Value(object)
	if is(t, "Value", err, api.OK); v != (api.Value{Data: data, Version: version}) {
		t.Fatalf("object %d is %v, not %s, %d", object, v, data, version)
	}
}

// What clients ask, and what they are answered (in epoch 1, of session 0).

func read(id, number, object int) wire.Msg {
	return wire.Msg{Kind: wire.Read, Client: id, Number: number, Object: object}
}

func write(id, number, object int, data string) wire.Msg {
	return wire.Msg{Kind: wire.Write, Client: id, Number: number, Object: object, Data: data}
}

func renew(id, number int) wire.Msg {
	return wire.Msg{Kind: wire.Renew, Client: id, Number: number, Epoch: 1}
}

func ack(id, object, version int) wire.Msg {
	return wire.Msg{Kind: wire.Ack, Client: id, Epoch: 1, Object: object, Version: version}
}

func value(id, number, object, version int, data string, lease bool) wire.Msg {
	return wire.Msg{Kind: wire.Value, Client: id, Number: number, Epoch: 1, Object: object, Version: version, Data: data, Lease: lease}
}

func done(id, number, object, version int) wire.Msg {
	return wire.Msg{Kind: wire.Done, Client: id, Number: number, Epoch: 1, Object: object, Version: version}
}

func inval(seat, object, version int) wire.Msg {
	return wire.Msg{Kind: wire.Inval, Client: seat, Epoch: 1, Object: object, Version: version}
}

func granted(id, number int) wire.Msg {
	return wire.Msg{Kind: wire.Granted, Client: id, Number: number, Epoch: 1}
}

func flush(id, number, epoch, session int) wire.Msg {
	return wire.Msg{Kind: wire.Flush, Client: id, Number: number, Epoch: epoch, Session: session}
}

// lend: a client leans on an object.
func lend(t *testing.T, s *Server, id, object, now int) {
	t.Helper()
	sends(t, s.Hear(renew(id, 70), now), granted(id, 70))
	v, _ := s.Value(object)
	sends(t, s.Hear(read(id, 71, object), now), value(id, 71, object, v.Version, v.Data, true))
}

// TestNew: no disk; the next epoch each time; a disk without power.
func TestNew(t *testing.T) {
	_, err := New(nil, terms(), 0)
	is(t, "New", err, api.ErrMissing)
	var d wal.Disk
	for epoch := 1; epoch < 5; epoch++ {
		s := begun(t, &d, 10)
		sends(t, s.Hear(wire.Msg{Kind: wire.Renew, Client: 1, Number: 1, Epoch: epoch - 1}, 10), flush(1, 1, epoch, 0))
	}
	d.Cut(0)
	_, err = New(&d, terms(), 0)
	is(t, "New", err, api.ErrDevice)
}

// TestValue: of no object.
func TestValue(t *testing.T) {
	var d wal.Disk
	s := begun(t, &d, 0)
	for _, object := range []int{-1, api.MaxObjects, math.MinInt, math.MaxInt} {
		v, err := s.Value(object)
		if is(t, "Value", err, api.ErrRange); v != (api.Value{}) {
			t.Fatalf("object %d is %v", object, v)
		}
	}
	has(t, s, api.MaxObjects-1, "", 0)
}

// TestWrite: without holders it is done at once; and just once, however often it comes.
func TestWrite(t *testing.T) {
	var d wal.Disk
	s := begun(t, &d, 0)
	sends(t, s.Hear(write(1, 5, 3, "a"), 0), done(1, 5, 3, 1))
	sends(t, s.Hear(write(1, 5, 3, "a"), 0), done(1, 5, 3, 1))
	sends(t, s.Hear(write(1, 4, 3, "old"), 0))
	sends(t, s.Hear(write(2, 1, 3, "b"), 0), done(2, 1, 3, 2))
	sends(t, s.Hear(write(1, 5, 3, "a"), 0), done(1, 5, 3, 1))
	sends(t, s.Hear(write(5, 1, 3, "c"), 0), done(5, 1, 3, 3)) // the next life of 1
	sends(t, s.Hear(write(1, 5, 3, "a"), 0))
	sends(t, s.Hear(write(1, 9, 3, "a"), 0))
	has(t, s, 3, "c", 3)
	sends(t, s.Hear(read(0, 1, 3), 0), value(0, 1, 3, 3, "c", true))
}

// TestWriteIsDoneOnce: behind a restart, too.
func TestWriteIsDoneOnce(t *testing.T) {
	var d wal.Disk
	s := begun(t, &d, 0)
	s.Hear(write(1, 5, 3, "a"), 0)
	s.Hear(write(5, 2, 4, "b"), 0)
	s = begun(t, &d, 0)
	has(t, s, 3, "a", 1)
	has(t, s, 4, "b", 1)
	sends(t, s.Hear(write(1, 5, 3, "a"), 99))
	again := done(5, 2, 4, 1)
	again.Epoch = 2
	sends(t, s.Hear(write(5, 2, 4, "b"), 99), again)
	has(t, s, 3, "a", 1)
}

// TestEarlierLifeWritesLate: its write waits, one of the next life of that seat is done meanwhile: then its own, and never again.
func TestEarlierLifeWritesLate(t *testing.T) {
	var d wal.Disk
	s := begun(t, &d, 0)
	lend(t, s, 0, 3, 0)
	sends(t, s.Hear(write(1, 5, 3, "a"), 0), inval(0, 3, 1))
	sends(t, s.Hear(write(5, 1, 4, "b"), 0), done(5, 1, 4, 1))
	sends(t, s.Hear(ack(0, 3, 1), 0), done(1, 5, 3, 1))
	sends(t, s.Hear(write(1, 5, 3, "a"), 0))
	sends(t, s.Hear(write(5, 1, 4, "b"), 0), done(5, 1, 4, 1))
	s = begun(t, &d, 0)
	sends(t, s.Hear(write(1, 5, 3, "a"), 99))
	has(t, s, 3, "a", 1)
}

// TestHolders: each one is told, and waited for, the writer as well; told again when the write comes again.
func TestHolders(t *testing.T) {
	var d wal.Disk
	s := begun(t, &d, 0)
	for id := range 3 {
		lend(t, s, id, 3, 0)
	}
	sends(t, s.Hear(write(1, 5, 3, "a"), 1), inval(0, 3, 1), inval(1, 3, 1), inval(2, 3, 1))
	sends(t, s.Hear(ack(0, 3, 1), 1))
	sends(t, s.Hear(ack(0, 3, 1), 1))
	sends(t, s.Hear(write(1, 5, 3, "a"), 2), inval(1, 3, 1), inval(2, 3, 1))
	sends(t, s.Hear(ack(1, 3, 1), 1))
	has(t, s, 3, "", 0)
	sends(t, s.Hear(ack(6, 3, 1), 1), done(1, 5, 3, 1)) // by the next life of 2
	has(t, s, 3, "a", 1)
}

// TestAck: of another epoch, version or object it says nothing.
func TestAck(t *testing.T) {
	var d wal.Disk
	s := begun(t, &d, 0)
	s.Hear(write(1, 1, 3, "a"), 0)
	lend(t, s, 0, 3, 0)
	sends(t, s.Hear(write(1, 5, 3, "b"), 1), inval(0, 3, 2))
	other := ack(0, 3, 2)
	other.Epoch = 0
	for _, m := range []wire.Msg{other, ack(0, 3, 1), ack(0, 3, 3), ack(0, 2, 2), ack(0, 2, 1), ack(1, 3, 2), {Kind: wire.Ack, Epoch: 2, Object: 3, Version: 2}} {
		sends(t, s.Hear(m, 1))
		has(t, s, 3, "a", 1)
	}
	sends(t, s.Hear(ack(0, 3, 2), 1), done(1, 5, 3, 2))
}

// TestNoLeaseWhileAWriteWaits: of its object; of others there is one.
func TestNoLeaseWhileAWriteWaits(t *testing.T) {
	var d wal.Disk
	s := begun(t, &d, 0)
	lend(t, s, 0, 3, 0)
	s.Hear(write(1, 5, 3, "a"), 0)
	sends(t, s.Hear(read(2, 1, 3), 0), value(2, 1, 3, 0, "", false))
	sends(t, s.Hear(read(2, 2, 4), 0), value(2, 2, 4, 0, "", true))
	sends(t, s.Hear(ack(0, 3, 1), 0), done(1, 5, 3, 1))
	sends(t, s.Hear(read(2, 3, 3), 0), value(2, 3, 3, 1, "a", true))
}

// TestNoVolumeWhileAWriteWaits: who is waited for is told so once more, and has no more time; others have.
func TestNoVolumeWhileAWriteWaits(t *testing.T) {
	var d wal.Disk
	s := begun(t, &d, 0)
	for object := range 3 {
		lend(t, s, 0, object, 0)
	}
	s.Hear(write(1, 5, 2, "a"), 0)
	s.Hear(write(2, 5, 0, "b"), 0)
	sends(t, s.Hear(renew(0, 1), 7), inval(0, 0, 1), inval(0, 2, 1))
	sends(t, s.Hear(renew(1, 1), 7), granted(1, 1))
	sends(t, s.Tick(7))
	sends(t, s.Tick(8), done(2, 5, 0, 1), done(1, 5, 2, 1))
	sends(t, s.Hear(renew(0, 2), 8), flush(0, 2, 1, 1))
}

// TestVolumeIsOver: who has no lease of the volume is not waited for, but flushed; of the object it may last.
func TestVolumeIsOver(t *testing.T) {
	var d wal.Disk
	s := begun(t, &d, 0)
	lend(t, s, 0, 3, 0)
	lend(t, s, 0, 4, 0)
	lend(t, s, 2, 4, 0)
	sends(t, s.Hear(write(1, 5, 3, "a"), 8), done(1, 5, 3, 1))
	sends(t, s.Hear(renew(0, 1), 8), flush(0, 1, 1, 1))
	sends(t, s.Hear(renew(2, 1), 8), granted(2, 1)) // it doesn't have that object
	know := renew(0, 2)
	know.Session = 1
	knows := granted(0, 2)
	knows.Session = 1
	sends(t, s.Hear(know, 8), knows)
	sends(t, s.Hear(write(1, 6, 4, "b"), 8), inval(2, 4, 1)) // 0 dropped it with the session
}

// TestObjectIsOver: who has no lease of the object any more is neither waited for nor flushed.
func TestObjectIsOver(t *testing.T) {
	var d wal.Disk
	s := begun(t, &d, 0)
	lend(t, s, 0, 3, 0)
	sends(t, s.Hear(renew(0, 1), 7), granted(0, 1))
	sends(t, s.Hear(renew(0, 2), 14), granted(0, 2))
	sends(t, s.Hear(write(1, 5, 3, "a"), 19), inval(0, 3, 1))
	sends(t, s.Tick(19))
	sends(t, s.Tick(20), done(1, 5, 3, 1))
	sends(t, s.Hear(renew(0, 3), 20), granted(0, 3))
}

// TestEarlierEpoch: its leases are waited for, to the tick; reads, and leases, are not.
func TestEarlierEpoch(t *testing.T) {
	var d wal.Disk
	begun(t, &d, 0)
	s := begun(t, &d, 100)
	sends(t, s.Hear(write(1, 5, 3, "a"), 100))
	v := value(0, 1, 4, 0, "", true)
	v.Epoch = 2
	sends(t, s.Hear(read(0, 1, 4), 100), v)
	sends(t, s.Hear(write(1, 5, 3, "a"), 107))
	sends(t, s.Tick(107))
	a := done(1, 5, 3, 1)
	a.Epoch = 2
	sends(t, s.Tick(108), a)
	sends(t, begun(t, &wal.Disk{}, 100).Hear(write(1, 5, 3, "a"), 100), done(1, 5, 3, 1))
}

// TestQueue: writes of an object are done in the order in which they came; of more than MaxQueue the rest has to come again.
func TestQueue(t *testing.T) {
	var d wal.Disk
	s := begun(t, &d, 0)
	lend(t, s, 0, 3, 0)
	lives := func(n int) int { return 1 + n*api.MaxClients }
	for n := range api.MaxQueue {
		sends(t, s.Hear(write(lives(n), 1, 3, strconv.Itoa(n)), 0), inval(0, 3, 1))
		sends(t, s.Hear(write(lives(0), 1, 3, "0"), 0), inval(0, 3, 1))
	}
	sends(t, s.Hear(write(lives(api.MaxQueue), 1, 3, "x"), 0))
	sends(t, s.Hear(write(lives(3), 1, 3, "3"), 0), inval(0, 3, 1))
	sends(t, s.Hear(write(2, 1, 4, "y"), 0), done(2, 1, 4, 1))
	var all []wire.Msg
	for n := range api.MaxQueue {
		all = append(all, done(lives(n), 1, 3, n+1))
	}
	sends(t, s.Hear(ack(0, 3, 1), 0), all...)
	sends(t, s.Hear(write(lives(api.MaxQueue), 1, 3, "x"), 0), done(lives(api.MaxQueue), 1, 3, api.MaxQueue+1))
}

// TestPower: a write that is torn is not there, and the server does nothing any more.
func TestPower(t *testing.T) {
	for _, torn := range []int{math.MinInt, -1, 0, 1, 9, math.MaxInt} {
		var d wal.Disk
		s := begun(t, &d, 0)
		lend(t, s, 0, 4, 0)
		sends(t, s.Hear(write(2, 5, 4, "c"), 0), inval(0, 4, 1))
		d.Cut(1)
		s.Tear(torn)
		sends(t, s.Hear(write(1, 5, 3, "a"), 0), done(1, 5, 3, 1))
		sends(t, s.Hear(write(1, 6, 3, "b"), 0))
		if !s.Down() {
			t.Fatal("it is not down")
		}
		sends(t, s.Hear(read(1, 7, 3), 0))
		sends(t, s.Hear(renew(1, 7), 0))
		sends(t, s.Hear(write(1, 5, 3, "a"), 0))
		sends(t, s.Hear(ack(0, 4, 1), 0))
		sends(t, s.Tick(99))
		d.Cut(-1)
		s = begun(t, &d, 0)
		has(t, s, 3, "a", 1)
		has(t, s, 4, "", 0)
	}
}

// TestPowerWhileAWriteWaits: nobody is told of it any more.
func TestPowerWhileAWriteWaits(t *testing.T) {
	var d wal.Disk
	s := begun(t, &d, 0)
	lend(t, s, 0, 3, 0)
	sends(t, s.Hear(write(1, 5, 3, "a"), 0), inval(0, 3, 1))
	sends(t, s.Hear(write(2, 5, 3, "b"), 0), inval(0, 3, 1))
	d.Cut(1)
	sends(t, s.Hear(ack(0, 3, 1), 0), done(1, 5, 3, 1))
	if !s.Down() {
		t.Fatal("it is not down")
	}
	sends(t, s.Tick(99))
}

// TestFull: without room a write is not done, and told so; what is there stays, behind restarts, too.
func TestFull(t *testing.T) {
	var d wal.Disk
	s := begun(t, &d, 0)
	for n := 1; n < api.MaxLog; n++ {
		sends(t, s.Hear(write(1, n, 3, "a"), 0), done(1, n, 3, n))
	}
	sends(t, s.Hear(write(1, api.MaxLog, 3, "b"), 0), done(1, api.MaxLog, 3, 0))
	sends(t, s.Hear(write(1, api.MaxLog, 3, "b"), 0), done(1, api.MaxLog, 3, 0))
	for range 3 {
		has(t, s, 3, "a", api.MaxLog-1)
		s = begun(t, &d, 0)
	}
	refused := done(1, api.MaxLog, 3, 0)
	refused.Epoch = 2
	sends(t, s.Hear(write(1, api.MaxLog, 3, "b"), 8), refused)
}

// TestWhatIsNone: messages that no client sends change nothing, and nothing goes wrong by them.
func TestWhatIsNone(t *testing.T) {
	var d wal.Disk
	s := begun(t, &d, 0)
	for kind := -1; kind < 12; kind++ {
		for _, n := range []int{-1, math.MinInt} {
			sends(t, s.Hear(wire.Msg{Kind: kind, Client: n, Object: 1}, 0))
			sends(t, s.Hear(wire.Msg{Kind: kind, Object: n}, 0))
		}
		for _, n := range []int{api.MaxObjects, math.MaxInt} {
			sends(t, s.Hear(wire.Msg{Kind: kind, Object: n}, 0))
		}
	}
	for _, kind := range []int{0, wire.Value, wire.Done, wire.Granted, wire.Flush, wire.Inval, 10} {
		sends(t, s.Hear(wire.Msg{Kind: kind, Object: 1}, 0))
	}
	sends(t, s.Hear(ack(0, 1, 1), 0))
	has(t, s, 1, "", 0)
}
