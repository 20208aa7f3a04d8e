package world

import (
	"math"
	"slices"
	"strconv"
	"strings"
	"testing"

	"tenure/api"
	"tenure/plain"
)

func terms() api.Terms { return api.Terms{Object: 20, Volume: 8} }

// is: an error is that one, without a place.
func is(t *testing.T, what string, err error, want api.Errno) {
	t.Helper()
	if e, bare := plain.Bare(err); e != want || !bare {
		t.Fatalf("%s: error %d, not %d", what, e, want)
	}
}

// has: the object is that, at the server.
func has(t *testing.T, w *World, object int, data string, version int) {
	t.Helper()
	v, err := w.Value(object)
	if is(t, "Value", err, api.OK); v != (api.Value{Data: data, Version: version}) {
		t.Fatalf("object %d is %v, not %s, %d", object, v, data, version)
	}
}

// events: these.
func events(t *testing.T, w *World, want ...Event) {
	t.Helper()
	if got := w.Events(); !slices.Equal(got, want) {
		t.Fatalf("events are %+v, not %+v", got, want)
	}
}

// calm: all calls come to their end, and the server is up.
func calm(w *World) { w.Calm(2*w.terms.Volume + 10) }

// state: all that is to be seen of a world, and its steps.
type state struct {
	events string
	many   int
	up     bool
	step   int
	clock  int
}

func look(w *World) state {
	s := ""
	for _, e := range w.Events() {
		s += strconv.Itoa(e.Client) + e.Call.Value.Data + strconv.Itoa(e.Began) + "," + strconv.Itoa(e.Ended) + ";"
	}
	return state{s, w.Many(), w.Up(), w.step, w.clock}
}

// TestNew: of which terms, and of how many, there are worlds.
func TestNew(t *testing.T) {
	quarter := api.MaxTime / 4
	for _, x := range []struct {
		t    api.Terms
		n    int
		want api.Errno
	}{
		{terms(), 1, api.OK}, {terms(), api.MaxClients, api.OK},
		{terms(), 0, api.ErrRange}, {terms(), -1, api.ErrRange}, {terms(), api.MaxClients + 1, api.ErrRange},
		{terms(), math.MaxInt, api.ErrRange}, {terms(), math.MinInt, api.ErrRange},
		{api.Terms{Object: 1, Volume: 1}, 1, api.OK}, {api.Terms{Object: 1}, 1, api.ErrRange},
		{api.Terms{Object: 1, Volume: -1}, 1, api.ErrRange}, {api.Terms{}, 1, api.ErrRange},
		{api.Terms{Object: 5, Volume: 6}, 1, api.ErrRange}, {api.Terms{Object: 6, Volume: 6}, 1, api.OK},
		{api.Terms{Object: quarter, Volume: 1}, 1, api.OK}, {api.Terms{Object: quarter, Volume: quarter}, 1, api.OK},
		{api.Terms{Object: quarter + 1, Volume: 1}, 1, api.ErrRange}, {api.Terms{Object: math.MaxInt, Volume: math.MaxInt}, 1, api.ErrRange},
		{api.Terms{Object: math.MinInt, Volume: math.MinInt}, 1, api.ErrRange},
		{api.Terms{Object: 6, Volume: 6, Drift: api.MaxDrift}, 1, api.OK}, {api.Terms{Object: 6, Volume: 6, Drift: api.MaxDrift + 1}, 1, api.ErrRange},
		{api.Terms{Object: 6, Volume: 6, Drift: -1}, 1, api.ErrRange},
	} {
		w, err := New(x.t, x.n)
		if is(t, "New", err, x.want); (w == nil) != (err != nil) {
			t.Fatalf("New(%v, %d) is %v, %v", x.t, x.n, w, err)
		}
	}
	w := made(t, terms(), 2)
	if look(w) != (state{up: true}) || len(w.Events()) != 0 {
		t.Fatalf("a new world: %+v", look(w))
	}
	for object := range api.MaxObjects {
		has(t, w, object, "", 0)
	}
}

// TestExample: 7 of the document.
func TestExample(t *testing.T) {
	w := made(t, terms(), 2)
	ok(t, w.Write(0, 3, "a"))
	calm(w)
	ok(t, w.Read(1, 3))
	if e := event(w); e.Call.Over || e.Ended != 0 {
		t.Fatalf("%+v is over", e)
	}
	w.Calm(1)
	read := event(w)
	if read.Call != (api.Call{Kind: api.Reads, Object: 3, Value: api.Value{Data: "a", Version: 1}, Over: true}) {
		t.Fatalf("%+v", read)
	}
	ok(t, w.Read(1, 3))
	want := read.Call
	want.Hit = true
	if e := event(w); e.Call != want || e.Ended != e.Began || w.Many() != 0 {
		t.Fatalf("%+v, %d under way", e, w.Many())
	}
}

// TestErrors: which is told first; nothing is changed then.
func TestErrors(t *testing.T) {
	long := strings.Repeat("x", api.MaxData+1)
	w := made(t, terms(), 2)
	ok(t, w.Write(0, 1, "a"))
	before := look(w)
	for _, k := range []int{-1, 2, math.MinInt, math.MaxInt} {
		is(t, "Read", w.Read(k, -1), api.ErrRange)
		is(t, "Write", w.Write(k, -1, long), api.ErrRange)
		is(t, "Again", w.Again(k), api.ErrRange)
		is(t, "Reborn", w.Reborn(k), api.ErrRange)
	}
	is(t, "Read", w.Read(0, -1), api.ErrState)
	is(t, "Write", w.Write(0, -1, long), api.ErrState)
	for _, object := range []int{-1, api.MaxObjects, math.MinInt, math.MaxInt} {
		is(t, "Read", w.Read(1, object), api.ErrRange)
		is(t, "Write", w.Write(1, object, long), api.ErrRange)
		v, err := w.Value(object)
		if is(t, "Value", err, api.ErrRange); v != (api.Value{}) {
			t.Fatalf("Value(%d) is %v", object, v)
		}
	}
	is(t, "Write", w.Write(1, 0, long), api.ErrLimit)
	for _, k := range []int{-1, w.Many(), math.MinInt, math.MaxInt} {
		is(t, "Deliver", w.Deliver(k), api.ErrRange)
		is(t, "Lose", w.Lose(k), api.ErrRange)
		is(t, "Twice", w.Twice(k), api.ErrRange)
	}
	is(t, "Restart", w.Restart(), api.ErrState)
	for _, by := range [][]int{nil, {1}, {1, 1}, {1, 1, 1, 1}, {-1, 1, 1}, {1, 1, -1}, {1, api.MaxTime/8 + 1, 1}, {math.MaxInt, 1, 1}, {1, 1, math.MinInt}} {
		is(t, "Goes", w.Goes(by), api.ErrRange)
	}
	if look(w) != before {
		t.Fatalf("%+v, not %+v", look(w), before)
	}
	w.Crash()
	_, err := w.Value(0)
	is(t, "Value", err, api.ErrState)
	_, err = w.Value(-1)
	is(t, "Value", err, api.ErrState)
	ok(t, w.Write(1, 0, long[1:]))
}

// TestSteps: what is one, and what is none.
func TestSteps(t *testing.T) {
	w := made(t, terms(), 2)
	steps := 0
	step := func(what string, by int, err error) {
		t.Helper()
		is(t, what, err, api.OK)
		if steps += by; w.step != steps {
			t.Fatalf("%s: step %d, not %d", what, w.step, steps)
		}
	}
	step("Read", 1, w.Read(0, 0))
	step("Write", 1, w.Write(1, 0, "a"))
	step("Again", 1, w.Again(0))
	step("Twice", 0, w.Twice(0))
	step("Lose", 0, w.Lose(0))
	step("Deliver", 1, w.Deliver(0))
	step("Goes", 1, w.Goes([]int{1, 0, api.MaxTime / 8}))
	w.Fails(1, 2)
	step("Fails", 0, nil)
	w.Crash()
	step("Crash", 1, nil)
	w.Crash()
	step("Crash", 1, nil)
	step("Restart", 1, w.Restart())
	step("Reborn", 1, w.Reborn(1))
	w.Calm(0)
	step("Calm", 0, nil)
	w.Calm(-5)
	step("Calm", 0, nil)
	step("Write", 1, w.Write(1, 0, "b"))
	if e := event(w); e.Began != steps || e.Ended != 0 || e.Life != 1 {
		t.Fatalf("%+v, step %d", e, steps)
	}
}

// TestEvents: as they began, and when they were over.
func TestEvents(t *testing.T) {
	w := made(t, terms(), 2)
	ok(t, w.Write(1, 2, "a"))
	ok(t, w.Read(0, 2))
	read := Event{Call: api.Call{Kind: api.Reads, Object: 2}, Began: 2}
	write := Event{Client: 1, Call: api.Call{Kind: api.Writes, Object: 2, Value: api.Value{Data: "a"}}, Began: 1}
	events(t, w, write, read)
	for w.Many() > 0 && !event(w).Call.Over {
		ok(t, w.Deliver(w.Many()-1))
	}
	read.Call.Over, read.Ended = true, w.step
	events(t, w, write, read)
	for w.Many() > 0 && !w.Events()[0].Call.Over {
		ok(t, w.Deliver(0))
	}
	write.Call.Over, write.Ended, write.Call.Value.Version = true, w.step, 1
	events(t, w, write, read)
	settle(w, nobody)
	events(t, w, write, read)
	has(t, w, 2, "a", 1)
}

// TestEventsAreFresh: who writes into what was told changes nothing; nor is a list that was handed in changed.
func TestEventsAreFresh(t *testing.T) {
	w := made(t, terms(), 1)
	ok(t, w.Write(0, 2, "a"))
	l := w.Events()
	want := slices.Clone(l)
	l[0] = Event{Ended: 9}
	_ = append(l[:0], Event{Ended: 9})
	events(t, w, want...)
	calm(w)
	if l[0] != (Event{Ended: 9}) {
		t.Fatal("what was told has changed")
	}
	by := []int{3, 4, 5}
	ok(t, w.Goes(by[:2]))
	if !slices.Equal(by, []int{3, 4, 5}) {
		t.Fatalf("the list is %v", by)
	}
}

// TestLoseAndTwice: what is lost never comes; what is sent twice is done once.
func TestLoseAndTwice(t *testing.T) {
	w := made(t, terms(), 1)
	ok(t, w.Write(0, 2, "a"))
	for w.Many() > 0 {
		ok(t, w.Lose(w.Many()-1))
	}
	has(t, w, 2, "", 0)
	ok(t, w.Again(0))
	for k := range w.Many() {
		ok(t, w.Twice(k))
		ok(t, w.Twice(k))
	}
	settle(w, nobody)
	has(t, w, 2, "a", 1)
	if e := event(w); !e.Call.Over || e.Call.Value.Version != 1 {
		t.Fatalf("%+v", e)
	}
}

// TestCrash: at a server that is down what comes is gone; what is done is there behind Restart.
func TestCrash(t *testing.T) {
	w := made(t, terms(), 1)
	ok(t, w.Write(0, 2, "a"))
	settle(w, nobody)
	ok(t, w.Write(0, 2, "b"))
	w.Crash()
	if w.Up() {
		t.Fatal("it is up")
	}
	settle(w, nobody)
	ok(t, w.Again(0))
	settle(w, nobody)
	ok(t, w.Restart())
	if !w.Up() || w.Many() != 0 {
		t.Fatalf("up: %v, %d under way", w.Up(), w.Many())
	}
	has(t, w, 2, "a", 1)
	calm(w)
	has(t, w, 2, "b", 2)
}

// TestFails: behind so many records more; whatever is torn, what is done is there, and nothing else.
func TestFails(t *testing.T) {
	for _, torn := range []int{math.MinInt, -1, 0, 1, 7, 30, math.MaxInt} {
		for _, writes := range []int{math.MinInt, -1, 0, 1, 2} {
			w := made(t, terms(), 1)
			w.Fails(9, torn)
			w.Fails(writes, torn)
			for n := range 3 {
				if !w.Up() {
					t.Fatalf("Fails(%d, %d): down behind %d writes", writes, torn, n)
				}
				ok(t, w.Write(0, 2, "d"+strconv.Itoa(n)))
				settle(w, nobody)
				if n == max(writes, 0) {
					break
				}
				has(t, w, 2, "d"+strconv.Itoa(n), n+1)
			}
			if w.Up() || event(w).Call.Over {
				t.Fatalf("Fails(%d, %d): up: %v, %+v", writes, torn, w.Up(), event(w))
			}
			ok(t, w.Restart())
			if v, _ := w.Value(2); v.Version != max(writes, 0) {
				t.Fatalf("Fails(%d, %d): %v is there", writes, torn, v)
			}
			calm(w) // with power: it stays on
			if e := event(w); e.Call.Value.Version != max(writes, 0)+1 || !w.Up() {
				t.Fatalf("%+v", e)
			}
		}
	}
}

// TestTorn: so many bytes of the record that is not there are on the disk.
func TestTorn(t *testing.T) {
	tear := func(torn int) *World {
		w := made(t, terms(), 1)
		w.Fails(0, torn)
		ok(t, w.Write(0, 2, "a"))
		settle(w, nobody)
		return w
	}
	if tear(-1).disk != tear(0).disk || tear(0).disk == tear(9).disk {
		t.Fatal("not so many bytes are written")
	}
}

// TestFailsEndsWithRestart: it is up with power, whatever was told ahead of that, of the one that is up or down.
func TestFailsEndsWithRestart(t *testing.T) {
	w := made(t, terms(), 1)
	w.Fails(0, 3)
	w.Crash()
	w.Fails(0, 3)
	ok(t, w.Restart())
	ok(t, w.Write(0, 2, "a"))
	calm(w)
	if has(t, w, 2, "a", 1); w.Events()[0].Call.Value.Version != 1 || w.server == nil {
		t.Fatal("it is not done")
	}
}

// TestReborn: the call is never over, and all that it had is gone; the clock goes on.
func TestReborn(t *testing.T) {
	w := made(t, terms(), 2)
	ok(t, w.Goes([]int{5, 6, 7}))
	lean(t, w, 1, 0)
	ok(t, w.Read(1, 0))
	if !event(w).Call.Hit {
		t.Fatal("it doesn't lean")
	}
	ok(t, w.Write(1, 2, "a"))
	ok(t, w.Reborn(1))
	lost := event(w)
	ok(t, w.Read(1, 2)) // its number is that of the first one's first call
	settle(w, nobody)
	calm(w)
	if e := event(w); e.Life != 1 || !e.Call.Over {
		t.Fatalf("%+v", e)
	}
	if got := w.Events()[2]; got != lost || got.Call.Over || got.Ended != 0 || got.Life != 0 {
		t.Fatalf("%+v, not %+v", got, lost)
	}
	ok(t, w.Reborn(1))
	ok(t, w.Read(1, 0))
	if e := event(w); e.Call.Hit || e.Life != 2 {
		t.Fatalf("%+v", e)
	}
	if w.seats[1].clock != 7+2*8+10 || w.seats[0].clock != 6+2*8+10 {
		t.Fatalf("clocks show %d and %d", w.seats[0].clock, w.seats[1].clock)
	}
}

// TestGoes: to MaxTime / 2 at most; there all still ends.
func TestGoes(t *testing.T) {
	w := made(t, api.Terms{Object: api.MaxTime / 4, Volume: api.MaxTime / 4, Drift: api.MaxDrift}, 1)
	eighth := api.MaxTime / 8
	for n := range 6 {
		ok(t, w.Goes([]int{eighth, eighth - 1}))
		if w.clock != min((n+1)*eighth, api.MaxTime/2) || w.seats[0].clock != min((n+1)*(eighth-1), api.MaxTime/2) {
			t.Fatalf("clocks show %d, %d", w.clock, w.seats[0].clock)
		}
	}
	ok(t, w.Write(0, 2, "a"))
	w.Calm(30)
	ok(t, w.Read(0, 2))
	w.Calm(30)
	if e := event(w); !e.Call.Over || e.Call.Value != (api.Value{Data: "a", Version: 1}) {
		t.Fatalf("%+v", e)
	}
}

// TestCalm: the server is begun anew, clocks go on by one a round, and client by client all comes.
func TestCalm(t *testing.T) {
	w := made(t, terms(), 3)
	w.Crash()
	w.Calm(5)
	if !w.Up() || w.Many() != 0 || w.clock != 5 || w.seats[0].clock != 5 || w.seats[2].clock != 5 {
		t.Fatalf("%+v", look(w))
	}
	calm(w)
	lean(t, w, 1, 0)
	ok(t, w.Write(0, 0, "a"))
	ok(t, w.Read(2, 0))
	for w.Many() > 0 {
		ok(t, w.Lose(0))
	}
	w.Calm(1) // client 0's write is done, by client 1's word, ahead of what client 2 sends
	l := w.Events()
	write, read := l[len(l)-2], l[len(l)-1]
	if !write.Call.Over || read.Call.Value != (api.Value{Data: "a", Version: 1}) || write.Ended >= read.Ended {
		t.Fatalf("%+v, %+v", write, read)
	}
}

// TestCalmDelivers: what is under way comes, the first one first, ahead of what is sent then.
func TestCalmDelivers(t *testing.T) {
	w := made(t, terms(), 2)
	ok(t, w.Write(1, 0, "a"))
	ok(t, w.Write(0, 0, "b"))
	w.Calm(1)
	has(t, w, 0, "b", 2)
	l := w.Events()
	if l[0].Call.Value.Version != 1 || l[1].Call.Value.Version != 2 || l[0].Ended >= l[1].Ended || w.Many() != 0 {
		t.Fatalf("%+v", l)
	}
}

// TestHoldersWord: a write is done when each holder has said so, in one round; or when its lease of the volume is over.
func TestHoldersWord(t *testing.T) {
	w := made(t, terms(), 2)
	lean(t, w, 0, 0)
	ok(t, w.Write(1, 0, "a"))
	settle(w, nobody)
	if e := event(w); !e.Call.Over {
		t.Fatalf("%+v is not over", e)
	}
	lean(t, w, 0, 0)
	ok(t, w.Write(1, 0, "b"))
	for range 7 {
		settle(w, 0)
		ok(t, w.Goes([]int{1, 0, 0}))
		ok(t, w.Again(1))
		ok(t, w.Again(0))
	}
	settle(w, 0)
	if e := event(w); e.Call.Over {
		t.Fatalf("%+v is over", e)
	}
	ok(t, w.Goes([]int{1, 0, 0}))
	settle(w, 0)
	if e := event(w); !e.Call.Over {
		t.Fatalf("%+v is not over", e)
	}
}

// TestMoreThanTheNetHas: what is beyond is lost, and all comes to its end the same.
func TestMoreThanTheNetHas(t *testing.T) {
	w := made(t, terms(), 4)
	for k := range 4 {
		ok(t, w.Write(k, 0, strconv.Itoa(k)))
	}
	for range api.MaxNet {
		ok(t, w.Twice(1))
	}
	if w.Many() != api.MaxNet {
		t.Fatalf("%d under way", w.Many())
	}
	calm(w)
	for _, e := range w.Events() {
		if !e.Call.Over || e.Call.Value.Version < 1 {
			t.Fatalf("%+v", e)
		}
	}
	if v, _ := w.Value(0); v.Version != 4 {
		t.Fatalf("%v", v)
	}
}

// TestFull: when there is no room on the disk a Write is not done; what is there stays, and is read.
func TestFull(t *testing.T) {
	w := made(t, terms(), 2)
	last := api.Value{}
	for n := range api.MaxLog + 5 {
		ok(t, w.Write(0, 2, strconv.Itoa(n)))
		w.Calm(1)
		e := event(w)
		if !e.Call.Over || n < api.MaxLog/2 && e.Call.Value.Version != n+1 || n >= api.MaxLog && e.Call.Value != (api.Value{Data: strconv.Itoa(n)}) {
			t.Fatalf("%+v", e)
		}
		if e.Call.Value.Version > 0 {
			last = e.Call.Value
		}
	}
	for range 3 {
		w.Crash()
		ok(t, w.Restart())
		has(t, w, 2, last.Data, last.Version)
		ok(t, w.Read(1, 2))
		ok(t, w.Write(0, 2, "x"))
		calm(w)
		l := w.Events()
		if got := l[len(l)-2].Call; got.Value != last || !got.Over || l[len(l)-1].Call.Value != (api.Value{Data: "x"}) {
			t.Fatalf("%+v", l[len(l)-2:])
		}
	}
}

// TestManyRestarts: more than the disk has records: it is up, each time.
func TestManyRestarts(t *testing.T) {
	w := made(t, terms(), 1)
	ok(t, w.Write(0, 2, "a"))
	settle(w, nobody)
	for range api.MaxLog + 5 {
		w.Crash()
		ok(t, w.Restart())
		has(t, w, 2, "a", 1)
	}
}

// TestOtherDatagrams: what is none is nothing; what is for no client, too.
func TestOtherDatagrams(t *testing.T) {
	w := made(t, terms(), 1)
	ok(t, w.Write(0, 2, "a"))
	for k := range w.Many() {
		ok(t, w.net.Spoil(k, 0, 255))
	}
	g, _ := w.net.Take(0)
	w.net.Send(g)
	ok(t, w.Again(0))
	g, _ = w.net.Take(w.Many() - 1)
	for _, to := range []int{-2, 1, math.MaxInt, math.MinInt} {
		g.To = to
		w.net.Send(g)
	}
	settle(w, nobody)
	has(t, w, 2, "", 0)
	if event(w).Call.Over {
		t.Fatal("it is over")
	}
}

// TestTwoWorlds: what happens in one is not to be seen in the other.
func TestTwoWorlds(t *testing.T) {
	a, b := made(t, terms(), 2), made(t, terms(), 2)
	ok(t, b.Write(0, 2, "b"))
	calm(b)
	before := look(b)
	ok(t, a.Write(0, 2, "a"))
	calm(a)
	ok(t, a.Reborn(1))
	a.Crash()
	if look(b) != before {
		t.Fatalf("%+v, not %+v", look(b), before)
	}
	has(t, b, 2, "b", 1)
}

// TestAnything: whatever it is given, each call ends, none panics; twice the same tells the same.
func TestAnything(t *testing.T) {
	numbers := []int{math.MinInt, -1, 0, 1, 2, 3, 7, 8, 20, api.MaxTime / 8, api.MaxTime, math.MaxInt}
	run := func(seed die) (s string) {
		d := seed
		pick := func() int { return numbers[d.below(len(numbers))] }
		w := made(t, terms(), 1+d.below(api.MaxClients))
		for range 300 {
			var err error
			switch d.below(13) {
			case 0:
				err = w.Read(pick(), pick())
			case 1:
				err = w.Write(pick(), pick(), strings.Repeat("y", d.below(30)))
			case 2:
				err = w.Again(pick())
			case 3, 4, 5:
				err = w.Deliver(pick())
			case 6:
				err = w.Lose(pick())
			case 7:
				err = w.Twice(pick())
			case 8:
				err = w.Goes([]int{pick(), pick(), pick()}[:d.below(4)])
			case 9:
				w.Fails(pick(), pick())
			case 10:
				w.Crash()
			case 11:
				err = w.Restart()
			default:
				err = w.Reborn(pick())
			}
			w.Calm(d.below(3) - 1)
			_, other := w.Value(pick())
			s += number(err) + number(other)
		}
		return s + look(w).events
	}
	for seed := range die(30) {
		if run(seed) != run(seed) {
			t.Fatalf("seed %d: twice the same is not the same", seed)
		}
	}
}

// number: an error's number.
func number(err error) string { return strconv.Itoa(int(api.Tell(err))) }
