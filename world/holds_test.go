package world

import (
	"strconv"
	"testing"

	"tenure/api"
	"tenure/clock"
)

// die: numbers that look drawn, the same each time.
type die uint64

func (d *die) below(most int) int {
	*d = *d*6364136223846793005 + 1442695040888963407
	return int(uint64(*d>>11) % uint64(most))
}

// drive: a world to which things happen that are drawn; counts are what came of that.
type drive struct {
	t      *testing.T
	die    *die
	terms  api.Terms
	w      *World
	n      int
	honest bool
	spent  int // Writes and Restarts
	named  int // data that was written
}

// counts: how often what is looked for happened at all.
type counts struct{ hits, reads, writes, restarts, reborn, lost int }

// newDrive: a world of terms that are drawn, mostly short ones.
func newDrive(t *testing.T, d *die, honest bool) *drive {
	t.Helper()
	volume := 1 + d.below(12)
	terms := api.Terms{Object: volume + d.below(30), Volume: volume, Drift: d.below(2) * d.below(api.MaxDrift+1)}
	n := 1 + d.below(api.MaxClients)
	w, err := New(terms, n)
	if err != nil {
		t.Fatal(err)
	}
	return &drive{t: t, die: d, terms: terms, w: w, n: n, honest: honest}
}

// local: what a clock may go on by while so much time is gone.
func (r *drive) local(gone int) int {
	least := (gone*(1000-r.terms.Drift) + 999) / 1000
	most := gone * (1000 + r.terms.Drift) / 1000
	by := least + r.die.below(most-least+1)
	switch r.die.below(4) { // the ends, often: there it is narrow
	case 0:
		by = least
	case 1:
		by = most
	}
	if !clock.Honest(r.terms.Drift, gone, by) {
		r.t.Fatalf("%d is not honest while %d is gone", by, gone)
	}
	return by
}

// goes: all clocks go on, honestly or not.
func (r *drive) goes() {
	gone := r.die.below(r.terms.Volume + 3)
	by := make([]int, r.n+1)
	for i := range by {
		by[i] = r.die.below(3 * (r.terms.Volume + 3))
		if r.honest {
			by[i] = r.local(gone)
		}
	}
	r.must(r.w.Goes(by))
}

func (r *drive) must(err error) {
	r.t.Helper()
	if err != nil {
		r.t.Fatal(err)
	}
}

// spend: may there be one more Write, or Restart?
func (r *drive) spend() bool {
	if r.spent+1 >= api.MaxLog/2 {
		return false
	}
	r.spent++
	return true
}

// calm: if there is room for the Restarts that it may need.
func (r *drive) calm(rounds int) {
	if r.spent+3 < api.MaxLog/2 {
		r.spent += 3
		r.w.Calm(rounds)
	}
}

// call: a client begins one, if it may.
func (r *drive) call() {
	k, object := r.die.below(r.n), r.die.below(3)
	if r.die.below(3) > 0 {
		_ = r.w.Read(k, object)
	} else if r.spend() {
		r.named++
		_ = r.w.Write(k, object, "d"+strconv.Itoa(r.named))
	}
}

// deliver: mostly the first ones, and all of them; now and then another one.
func (r *drive) deliver() {
	many := r.w.Many()
	switch {
	case many == 0:
	case r.die.below(3) == 0:
		r.must(r.w.Deliver(r.die.below(many)))
	default:
		for range r.die.below(6) {
			_ = r.w.Deliver(0)
		}
	}
}

// trouble: what goes wrong, now and then.
func (r *drive) trouble(c *counts) {
	k := r.die.below(r.n)
	switch r.die.below(7) {
	case 0:
		r.w.Crash()
	case 1:
		r.w.Fails(r.die.below(3), r.die.below(60)-5)
	case 2:
		r.must(r.w.Reborn(k))
		c.reborn++
	case 3, 4:
		if r.w.Many() > 0 {
			r.must(r.w.Lose(r.die.below(r.w.Many())))
			c.lost++
		}
	default:
		if r.w.Many() > 0 {
			r.must(r.w.Twice(r.die.below(r.w.Many())))
		}
	}
}

// step: something happens.
func (r *drive) step(c *counts) {
	switch r.die.below(16) {
	case 0, 1, 2, 3, 4:
		r.call()
	case 5, 6, 7, 8, 9:
		r.deliver()
	case 10, 11:
		r.must(r.w.Again(r.die.below(r.n)))
	case 12, 13:
		r.goes()
	case 14:
		r.trouble(c)
	default:
		if r.die.below(3) == 0 {
			r.calm(1 + r.die.below(3))
		} else if !r.w.Up() && r.spend() {
			r.must(r.w.Restart())
			c.restarts++
		}
	}
	r.lasts()
}

// lasts: what a Write was told is done is there.
func (r *drive) lasts() {
	r.t.Helper()
	if !r.w.Up() {
		return
	}
	for _, e := range r.w.Events() {
		if e.Call.Kind != api.Writes || !e.Call.Over {
			continue
		}
		v, err := r.w.Value(e.Call.Object)
		r.must(err)
		if e.Call.Value.Version == 0 || v.Version < e.Call.Value.Version || v.Version == e.Call.Value.Version && v != e.Call.Value {
			r.t.Fatalf("%v was written, and is %v", e, v)
		}
	}
}

// ended: behind a calm all calls of those that live are over.
func (r *drive) ended() {
	r.t.Helper()
	lives := make([]int, r.n)
	for k := range lives {
		lives[k] = r.w.seats[k].life
	}
	for _, e := range r.w.Events() {
		if e.Life == lives[e.Client] && !e.Call.Over {
			r.t.Fatalf("%+v is not over (terms %v)", e, r.terms)
		}
	}
	if r.w.Many() != 0 || !r.w.Up() {
		r.t.Fatalf("behind a calm: %d under way, up: %v", r.w.Many(), r.w.Up())
	}
}

// leans: behind a calm what is read is leaned on.
func (r *drive) leans() {
	r.t.Helper()
	if short, _ := clock.Short(r.terms.Drift, r.terms.Volume); short < 4 {
		return
	}
	for range 5 {
		k, object := r.die.below(r.n), r.die.below(api.MaxObjects)
		r.must(r.w.Read(k, object))
		first := r.last()
		r.w.Calm(1)
		r.must(r.w.Read(k, object))
		if e := r.last(); !first.Call.Hit && (!e.Call.Hit || !e.Call.Over || r.w.Many() != 0 || e.Began != e.Ended) {
			r.t.Fatalf("%+v is no hit (terms %v)", e, r.terms)
		}
		r.w.Calm(2*r.terms.Volume + 10)
	}
}

func (r *drive) last() Event {
	l := r.w.Events()
	return l[len(l)-1]
}

// drawn: many worlds; check is asked for each, ahead of the last calm and behind it.
func drawn(t *testing.T, worlds int, honest bool, check func(r *drive)) (c counts) {
	t.Helper()
	d := die(5)
	for range worlds {
		r := newDrive(t, &d, honest)
		for range 50 + d.below(250) {
			r.step(&c)
		}
		check(r)
		r.w.Calm(2*r.terms.Volume + 10 + d.below(3))
		r.lasts()
		r.ended()
		r.leans()
		check(r)
		for _, e := range r.w.Events() {
			c.count(e)
		}
	}
	return c
}

func (c *counts) count(e Event) {
	switch {
	case e.Call.Hit:
		c.hits++
	case e.Call.Kind == api.Reads:
		c.reads++
	default:
		c.writes++
	}
}

// version: that of what a call read, or wrote (0, if that is not known).
func version(e Event, read map[string]int) int {
	if e.Call.Kind == api.Writes && !e.Call.Over {
		return read[e.Call.Value.Data]
	}
	return e.Call.Value.Version
}

// written: what was read was written there, as that version, and not later than it was read; two writes are never one version.
func written(t *testing.T, l []Event) (read map[string]int) {
	t.Helper()
	read = map[string]int{}
	writes := map[string]Event{}
	type place struct{ object, version int }
	taken := map[place]bool{}
	for _, e := range l {
		if e.Call.Kind == api.Writes {
			writes[e.Call.Value.Data] = e
			p := place{e.Call.Object, e.Call.Value.Version}
			if e.Call.Over && taken[p] {
				t.Fatalf("%+v: that version was written twice", e)
			}
			taken[p] = e.Call.Over
		}
	}
	for _, e := range l {
		v := e.Call.Value
		if e.Call.Kind != api.Reads || !e.Call.Over || v == (api.Value{}) {
			continue
		}
		w, ok := writes[v.Data]
		if !ok || w.Call.Object != e.Call.Object || w.Began > e.Ended || w.Call.Over && w.Call.Value.Version != v.Version || v.Version < 1 {
			t.Fatalf("%+v was not written so, but by %+v", e, w)
		}
		if n, ok := read[v.Data]; ok && n != v.Version {
			t.Fatalf("%+v was read as version %d, too", e, n)
		}
		read[v.Data] = v.Version
	}
	return read
}

// fresh: all calls are as if each had been done at once, in the order of versions.
func fresh(t *testing.T, l []Event) {
	t.Helper()
	read := written(t, l)
	for _, a := range l {
		for _, b := range l {
			if !a.Call.Over || a.Call.Object != b.Call.Object || a.Ended >= b.Began {
				continue
			}
			va, vb := version(a, read), version(b, read)
			if b.Call.Kind == api.Reads && b.Call.Over && va > vb || b.Call.Kind == api.Writes && vb > 0 && va >= vb {
				t.Fatalf("%+v\nis ahead of\n%+v", a, b)
			}
		}
	}
}

// forward: of one object, by one life, versions never go back.
func forward(t *testing.T, l []Event) {
	t.Helper()
	written(t, l)
	type who struct{ client, life, object int }
	seen := map[who]int{}
	for _, e := range l {
		if !e.Call.Over {
			continue
		}
		w := who{e.Client, e.Life, e.Call.Object}
		if e.Call.Value.Version < seen[w] {
			t.Fatalf("%+v: version %d was seen", e, seen[w])
		}
		seen[w] = e.Call.Value.Version
	}
}

// TestFresh: 7.5, with honest clocks.
func TestFresh(t *testing.T) {
	c := drawn(t, 1500, true, func(r *drive) {
		fresh(r.t, r.w.Events())
		forward(r.t, r.w.Events())
	})
	t.Logf("%+v", c)
	if c.hits < 1000 || c.reads < 1000 || c.writes < 1000 || c.restarts < 100 || c.reborn < 100 || c.lost < 100 {
		t.Fatalf("too little happened: %+v", c)
	}
}

// TestWhateverClocksShow: 7.5, with clocks that go on anyhow.
func TestWhateverClocksShow(t *testing.T) {
	c := drawn(t, 1500, false, func(r *drive) { forward(r.t, r.w.Events()) })
	t.Logf("%+v", c)
	if c.hits < 1000 || c.reads < 1000 || c.writes < 1000 || c.restarts < 100 || c.reborn < 100 || c.lost < 100 {
		t.Fatalf("too little happened: %+v", c)
	}
}
