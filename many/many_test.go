package many

import (
	"math"
	"slices"
	"strconv"
	"strings"
	"testing"

	"tenure/api"
	"tenure/desk"
	"tenure/plain"
)

// texts: so many sessions, each with another answer; early ones take longer than late ones.
func texts(many int) []string {
	l := make([]string, many)
	for i := range l {
		data := "w" + strconv.Itoa(i)
		l[i] = "write 0 " + strconv.Itoa(i%api.MaxObjects) + " " + data + "\n" + strings.Repeat("calm 20\n", 1+many-i) + "calls\nvalue " + strconv.Itoa(i%9) + "\n"
	}
	return l
}

// sessions: each one's answer, one by one.
func sessions(texts []string) []string {
	l := make([]string, len(texts))
	for i, s := range texts {
		l[i] = desk.Session(s)
	}
	return l
}

// TestAll: all answers, in their order, by however many workers.
func TestAll(t *testing.T) {
	for _, many := range []int{0, 1, 2, 3, 15, 16, 17, maxTexts} {
		in := texts(many)
		want := sessions(in)
		for workers := 1; workers <= maxWorkers; workers++ {
			got, err := All(in, workers)
			if err != nil || !slices.Equal(got, want) {
				t.Fatalf("%d texts, %d workers: %q, %v, not %q", many, workers, got, err, want)
			}
		}
	}
}

// TestOddTexts: what a session answers by errors is answered here by the same ones, and the others are answered.
func TestOddTexts(t *testing.T) {
	in := []string{"", strings.Repeat("x", api.MaxText+1), "x", "\n\n", "up", "up", "calm 201\nup", "\xff"}
	want := []string{"ok\n", "error 4\n", "error 3\n", "ok\nok\n", "true\n", "true\n", "error 2\ntrue\n", "error 3\n"}
	for workers := 1; workers <= maxWorkers; workers++ {
		if got, err := All(in, workers); err != nil || !slices.Equal(got, want) {
			t.Fatalf("%d workers: %q, %v", workers, got, err)
		}
	}
}

// TestLimit: at most 50 texts, and from 1 to 16 workers; else there is no answer.
func TestLimit(t *testing.T) {
	for _, x := range []struct{ texts, workers int }{
		{51, 1}, {51, 16}, {51, 0}, {1000, 4}, {0, 0}, {1, 0}, {50, 0}, {1, -1}, {1, 17}, {50, 17}, {0, 17},
		{1, math.MaxInt}, {1, math.MinInt}, {0, math.MaxInt},
	} {
		l, err := All(make([]string, x.texts), x.workers)
		if e, bare := plain.Bare(err); e != api.ErrLimit || !bare || l != nil {
			t.Fatalf("%d texts, %d workers: %q, %v", x.texts, x.workers, l, err)
		}
	}
	for _, workers := range []int{1, 16} {
		if l, err := All(make([]string, 50), workers); err != nil || len(l) != 50 {
			t.Fatalf("50 texts, %d workers: %q, %v", workers, l, err)
		}
		if l, err := All(nil, workers); err != nil || len(l) != 0 {
			t.Fatalf("no texts, %d workers: %q, %v", workers, l, err)
		}
	}
}

// TestLists: what is handed in stays as it is, with what stands behind its length; what comes out is fresh.
func TestLists(t *testing.T) {
	whole := texts(6)
	before := slices.Clone(whole)
	a, err := All(whole[:4], 3)
	if err != nil || !slices.Equal(whole, before) {
		t.Fatalf("%q, %v: the texts are %q now", a, err, whole)
	}
	b, _ := All(whole[:4], 3)
	clear(a)
	if !slices.Equal(b, sessions(before[:4])) || !slices.Equal(whole, before) {
		t.Fatal("lists share memory")
	}
}

// TestAtOnce: one call doesn't see another one.
func TestAtOnce(t *testing.T) {
	in := texts(8)
	want := sessions(in)
	answers := make(chan []string)
	for workers := 1; workers <= 6; workers++ {
		go func() {
			l, _ := All(in, workers)
			answers <- l
		}()
	}
	for range 6 {
		if l := <-answers; !slices.Equal(l, want) {
			t.Errorf("%q, not %q", l, want)
		}
	}
}
