package lease

import (
	"math"
	"slices"
	"testing"

	"tenure/api"
	"tenure/plain"
)

// die: numbers that look drawn, the same each time.
type die uint64

func (d *die) below(most int) int {
	*d = *d*6364136223846793005 + 1442695040888963407
	return int(uint64(*d>>11) % uint64(most))
}

// is: that error (OK: none), without a place.
func is(t *testing.T, what string, err error, want api.Errno) {
	t.Helper()
	if e, bare := plain.Bare(err); e != want || !bare || (err == nil) != (want == api.OK) {
		t.Fatalf("%s: %v, not %v", what, err, want)
	}
}

// gives, leans: Object and Volume without an error.
func gives(t *testing.T, l *Table, client, object, until int) {
	t.Helper()
	is(t, "Object", l.Object(client, object, until), api.OK)
}

func leans(t *testing.T, l *Table, client, until int) {
	t.Helper()
	is(t, "Volume", l.Volume(client, until), api.OK)
}

// held: these are an object's holders.
func held(t *testing.T, l *Table, object, now int, want ...int) {
	t.Helper()
	if got := l.Holders(object, now); !slices.Equal(got, want) {
		t.Fatalf("Holders(%d, %d) is %v, not %v", object, now, got, want)
	}
}

// until: the client's lease of the volume lasts just until then.
func until(t *testing.T, l *Table, client, when int) {
	t.Helper()
	if !l.Leans(client, when-1) || l.Leans(client, when) || l.Leans(client, when+1) {
		t.Fatalf("the lease of %d is not until %d", client, when)
	}
}

// session, many: what Session and Many answer.
func session(t *testing.T, l *Table, client, want int) {
	t.Helper()
	n, err := l.Session(client)
	is(t, "Session", err, api.OK)
	if n != want {
		t.Fatalf("Session(%d) is %d, not %d", client, n, want)
	}
}

func many(t *testing.T, l *Table, want int) {
	t.Helper()
	if n := l.Many(); n != want {
		t.Fatalf("Many is %d, not %d", n, want)
	}
}

func TestNew(t *testing.T) {
	l := New()
	many(t, l, 0)
	for object := range api.MaxObjects {
		held(t, l, object, math.MinInt)
	}
	for client := range api.MaxClients {
		session(t, l, client, 0)
		until(t, l, client, 0)
	}
}

func TestObject(t *testing.T) {
	l := New()
	gives(t, l, 2, 3, 10)
	held(t, l, 3, 9, 2)
	held(t, l, 3, 10)
	held(t, l, 3, 11)
	held(t, l, 3, math.MinInt, 2)
	held(t, l, 3, math.MaxInt)
	held(t, l, 2, 9)
	held(t, l, 4, 9)
	many(t, l, 1)
	until(t, l, 2, 0) // it says nothing of the volume
}

func TestObjectLater(t *testing.T) {
	l := New()
	gives(t, l, 2, 3, 10)
	gives(t, l, 2, 3, 9)
	held(t, l, 3, 9, 2)
	gives(t, l, 2, 3, 0)
	held(t, l, 3, 9, 2)
	gives(t, l, 2, 3, 11)
	held(t, l, 3, 10, 2)
	held(t, l, 3, 11)
	many(t, l, 1)
}

func TestObjectEdges(t *testing.T) {
	l := New()
	gives(t, l, 0, 0, 0)
	many(t, l, 1) // it is over from time 0 on, but it is there
	held(t, l, 0, -1, 0)
	held(t, l, 0, 0)
	gives(t, l, api.MaxClients-1, api.MaxObjects-1, api.MaxTime)
	held(t, l, api.MaxObjects-1, api.MaxTime-1, api.MaxClients-1)
	held(t, l, api.MaxObjects-1, api.MaxTime)
	many(t, l, 2)
}

func TestHoldersRise(t *testing.T) {
	l := New()
	for client := range api.MaxClients {
		gives(t, l, api.MaxClients-1-client, 5, 10+client%2)
	}
	held(t, l, 5, 9, 0, 1, 2, 3)
	held(t, l, 5, 10, 0, 2)
	gives(t, l, 1, 4, 20)
	held(t, l, 5, 9, 0, 1, 2, 3)
	held(t, l, 4, 9, 1)
	many(t, l, 5)
}

func TestHoldersAreFresh(t *testing.T) {
	l := New()
	gives(t, l, 0, 1, 10)
	gives(t, l, 2, 1, 10)
	a := l.Holders(1, 0)
	b := l.Holders(1, 0)
	a[0] = 9
	_ = append(a[:1], 8)
	if !slices.Equal(b, []int{0, 2}) {
		t.Errorf("one list of holders is seen in another one: %v", b)
	}
	held(t, l, 1, 0, 0, 2)
}

func TestVolume(t *testing.T) {
	l := New()
	leans(t, l, 1, 10)
	until(t, l, 1, 10)
	leans(t, l, 1, 9)
	until(t, l, 1, 10)
	leans(t, l, 1, 11)
	until(t, l, 1, 11)
	leans(t, l, 0, 0)
	until(t, l, 0, 0)
	leans(t, l, api.MaxClients-1, api.MaxTime)
	until(t, l, api.MaxClients-1, api.MaxTime)
	until(t, l, 2, 0)
	many(t, l, 0) // leases of objects alone are counted
	held(t, l, 0, 0)
}

func TestNobodyLeans(t *testing.T) {
	l := New()
	for _, client := range []int{-1, api.MaxClients, math.MinInt, math.MaxInt} {
		if l.Leans(client, math.MinInt) {
			t.Errorf("Leans(%d) is true", client)
		}
	}
}

// full: each client has a lease of each object and of the volume, each until another time.
func full(t *testing.T) *Table {
	t.Helper()
	l := New()
	for client := range api.MaxClients {
		for object := range api.MaxObjects {
			gives(t, l, client, object, 10+client)
		}
		leans(t, l, client, 20+client)
	}
	return l
}

// stays: the table is as full left it.
func stays(t *testing.T, l *Table) {
	t.Helper()
	for object := range api.MaxObjects {
		held(t, l, object, 9, 0, 1, 2, 3)
		held(t, l, object, 11, 2, 3)
		held(t, l, object, 13)
	}
	for client := range api.MaxClients {
		until(t, l, client, 20+client)
		session(t, l, client, 0)
	}
	many(t, l, api.MaxClients*api.MaxObjects)
	held(t, l, -1, math.MinInt)
	held(t, l, api.MaxObjects, math.MinInt)
}

func TestRange(t *testing.T) {
	l := full(t)
	for _, n := range []int{-1, math.MinInt, math.MaxInt} {
		is(t, "no client", l.Object(n, 0, 50), api.ErrRange)
		is(t, "no object", l.Object(0, n, 50), api.ErrRange)
		is(t, "no time", l.Object(0, 0, n), api.ErrRange)
		is(t, "no client", l.Volume(n, 50), api.ErrRange)
		is(t, "no time", l.Volume(0, n), api.ErrRange)
		is(t, "no client", l.Flush(n), api.ErrRange)
	}
	is(t, "no client", l.Object(api.MaxClients, 0, 50), api.ErrRange)
	is(t, "no object", l.Object(0, api.MaxObjects, 50), api.ErrRange)
	is(t, "no time", l.Object(0, 0, api.MaxTime+1), api.ErrRange)
	is(t, "no client", l.Volume(api.MaxClients, 50), api.ErrRange)
	is(t, "no time", l.Volume(0, api.MaxTime+1), api.ErrRange)
	is(t, "no client", l.Flush(api.MaxClients), api.ErrRange)
	stays(t, l)
}

func TestNoSession(t *testing.T) {
	l := New()
	for _, client := range []int{-1, api.MaxClients, math.MinInt, math.MaxInt} {
		n, err := l.Session(client)
		is(t, "no client", err, api.ErrRange)
		if n != 0 {
			t.Errorf("Session(%d) is %d with an error", client, n)
		}
	}
}

func TestDrop(t *testing.T) {
	l := full(t)
	l.Drop(1, 3)
	held(t, l, 3, 9, 0, 2, 3)
	held(t, l, 2, 9, 0, 1, 2, 3)
	many(t, l, api.MaxClients*api.MaxObjects-1)
	until(t, l, 1, 21)
	session(t, l, 1, 0)
	l.Drop(1, 3)
	many(t, l, api.MaxClients*api.MaxObjects-1)
	gives(t, l, 1, 3, 5) // what it had before says nothing any more
	held(t, l, 3, 4, 0, 1, 2, 3)
	held(t, l, 3, 5, 0, 2, 3)
}

func TestDropNothing(t *testing.T) {
	l := full(t)
	for _, n := range []int{-1, math.MinInt, math.MaxInt} {
		l.Drop(n, 0)
		l.Drop(0, n)
		l.Drop(n, n)
	}
	l.Drop(api.MaxClients, 0)
	l.Drop(0, api.MaxObjects)
	stays(t, l)
}

func TestFlush(t *testing.T) {
	l := full(t)
	is(t, "Flush", l.Flush(2), api.OK)
	for object := range api.MaxObjects {
		held(t, l, object, math.MinInt, 0, 1, 3)
	}
	many(t, l, (api.MaxClients-1)*api.MaxObjects)
	sessions := [api.MaxClients]int{2: 1} // the one that was flushed alone has another
	for client, when := range [api.MaxClients]int{20, 21, 0, 23} {
		until(t, l, client, when)
		session(t, l, client, sessions[client])
	}
	gives(t, l, 2, 0, 4) // leases of the session before say nothing any more
	leans(t, l, 2, 6)
	held(t, l, 0, 4, 0, 1, 3)
	until(t, l, 2, 6)
	is(t, "Flush", l.Flush(2), api.OK)
	is(t, "Flush", l.Flush(2), api.OK) // without leases, too
	session(t, l, 2, 3)
	until(t, l, 2, 0)
}

func TestTwoTables(t *testing.T) {
	a, b := full(t), full(t)
	a.Drop(0, 0)
	is(t, "Flush", a.Flush(1), api.OK)
	gives(t, a, 2, 0, 99)
	leans(t, a, 2, 99)
	stays(t, b)
	many(t, New(), 0)
}

// model: a plain list of all that was given and not taken back.
type model struct {
	leases   []lease
	sessions [api.MaxClients]int
}

// lease: of the volume, if object is -1.
type lease struct{ client, object, until int }

// last: until when it lasts, and whether it is there.
func (m *model) last(client, object int) (until int, is bool) {
	for _, l := range m.leases {
		if l.client == client && l.object == object {
			until, is = max(until, l.until), true
		}
	}
	return until, is
}

// drop: all that is told of it is gone.
func (m *model) drop(client, object int) {
	m.leases = slices.DeleteFunc(m.leases, func(l lease) bool { return l.client == client && l.object == object })
}

// alike: the table answers what the model does.
func (m *model) alike(t *testing.T, l *Table, now int) {
	t.Helper()
	count := 0
	for object := range api.MaxObjects {
		var want []int
		for client := range api.MaxClients {
			until, is := m.last(client, object)
			if is {
				count++
			}
			if is && until > now {
				want = append(want, client)
			}
		}
		held(t, l, object, now, want...)
	}
	many(t, l, count)
	for client := range api.MaxClients {
		until, _ := m.last(client, -1)
		if l.Leans(client, now) != (until > now) {
			t.Fatalf("Leans(%d, %d) is %v", client, now, until <= now)
		}
		session(t, l, client, m.sessions[client])
	}
}

// step: the same at both.
func (m *model) step(t *testing.T, l *Table, d *die) {
	t.Helper()
	client, object, when := d.below(api.MaxClients), d.below(api.MaxObjects), d.below(30)
	switch d.below(12) {
	case 0:
		is(t, "Flush", l.Flush(client), api.OK)
		m.leases = slices.DeleteFunc(m.leases, func(l lease) bool { return l.client == client })
		m.sessions[client]++
	case 1, 2, 3:
		l.Drop(client, object)
		m.drop(client, object)
	case 4, 5, 6:
		leans(t, l, client, when)
		m.leases = append(m.leases, lease{client, -1, when})
	default:
		gives(t, l, client, object, when)
		m.leases = append(m.leases, lease{client, object, when})
	}
}

func TestModel(t *testing.T) {
	d := die(11)
	for range 40 {
		l, m := New(), &model{}
		for range 80 {
			m.step(t, l, &d)
			m.alike(t, l, d.below(32)-1)
		}
	}
}
