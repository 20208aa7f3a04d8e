package world

import (
	"testing"

	"tenure/api"
)

// nobody: no client is deaf.
const nobody = -2

// made: a world.
func made(t *testing.T, terms api.Terms, clients int) *World {
	t.Helper()
	w, err := New(terms, clients)
	ok(t, err)
	return w
}

// ok: nothing is wrong.
func ok(t *testing.T, err error) {
	t.Helper()
	if err != nil {
		t.Fatal(err)
	}
}

// settle: all comes, but what is for one that is deaf.
func settle(w *World, deaf int) {
	for w.Many() > 0 {
		g, _ := w.net.Take(0)
		if g.To != deaf {
			w.net.Send(g)
			_ = w.Deliver(w.Many() - 1)
		}
	}
}

// event: the last one.
func event(w *World) Event {
	l := w.Events()
	return l[len(l)-1]
}

// lean: a client may lean on an object.
func lean(t *testing.T, w *World, k, object int) {
	t.Helper()
	for range 2 { // by the first one it hears of the session
		ok(t, w.Again(k))
		settle(w, nobody)
	}
	ok(t, w.Read(k, object))
	settle(w, nobody)
	if e := event(w); !e.Call.Over {
		t.Fatalf("%+v is not over", e)
	}
}

// apart: so much time goes by; the server's clock runs as fast as it may, client 0's as slowly.
func apart(t *testing.T, w *World, gone int) {
	t.Helper()
	fast, slow := gone*(1000+w.terms.Drift)/1000, (gone*(1000-w.terms.Drift)+999)/1000
	ok(t, w.Goes([]int{fast, slow, gone}))
}

// written1: client 1 writes while client 0 is deaf: is it done? And then, may client 0 still lean on what it has?
func written1(t *testing.T, w *World) (done, hit bool) {
	t.Helper()
	ok(t, w.Write(1, 0, "new"))
	settle(w, 0)
	done = event(w).Call.Over
	ok(t, w.Read(0, 0))
	return done, event(w).Call.Hit
}

// TestNobodyLeansOnWhatIsOld: however far clocks go apart, and whichever lease ends first, who leans is waited for, to the tick.
func TestNobodyLeansOnWhatIsOld(t *testing.T) {
	seen := map[[2]bool]int{}
	for _, drift := range []int{0, 1, 100, 250, 333, 500} {
		for volume := 1; volume < 10; volume++ {
			for _, object := range []int{volume, volume + 1, volume + 4} {
				for renewed := range volume {
					for gone := range 2 * (object + 2) {
						w := made(t, api.Terms{Object: object, Volume: volume, Drift: drift}, 2)
						lean(t, w, 0, 0)
						apart(t, w, renewed)
						ok(t, w.Again(0))
						settle(w, nobody)
						apart(t, w, gone)
						done, hit := written1(t, w)
						seen[[2]bool{done, hit}]++
						if done && hit || drift == 0 && !done && !hit {
							t.Fatalf("terms %v, %d and %d are gone: done %v, hit %v", w.terms, renewed, gone, done, hit)
						}
					}
				}
			}
		}
	}
	if seen[[2]bool{true, false}] < 1000 || seen[[2]bool{false, true}] < 1000 || seen[[2]bool{false, false}] < 100 {
		t.Fatalf("too little was seen: %v", seen)
	}
}

// TestLeasesOutliveTheServer: a server that is begun anew knows no leases, and waits for them all the same, but no tick longer than Volume.
func TestLeasesOutliveTheServer(t *testing.T) {
	tight := 0
	for _, drift := range []int{0, 100, 333, 500} {
		for volume := 1; volume < 10; volume++ {
			for gone := range 3 * volume {
				w := made(t, api.Terms{Object: 2 * volume, Volume: volume, Drift: drift}, 2)
				lean(t, w, 0, 0)
				w.Crash()
				ok(t, w.Restart())
				before := w.clock
				apart(t, w, gone)
				done, hit := written1(t, w)
				if done && hit || done != (w.clock-before >= volume) {
					t.Fatalf("terms %v, %d is gone: done %v, hit %v", w.terms, gone, done, hit)
				}
				if hit && w.clock-before == volume-1 {
					tight++
				}
			}
		}
	}
	if tight < 5 {
		t.Fatalf("the last tick was leaned on %d times only", tight)
	}
}
