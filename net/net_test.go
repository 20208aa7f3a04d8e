package net

import (
	"bytes"
	"math"
	"slices"
	"testing"

	"tenure/api"
	"tenure/plain"
)

// die: numbers that look drawn, the same each time.
type die uint64

func (d *die) below(most int) int {
	*d = *d*6364136223846793005 + 1442695040888963407
	return int(uint64(*d>>11) % uint64(most))
}

// isRange says whether an error is ErrRange, without a place.
func isRange(err error) bool {
	e, bare := plain.Bare(err)
	return e == api.ErrRange && bare
}

// has: the net has so many, and lost so many.
func has(t *testing.T, n *Net, many, lost int) {
	t.Helper()
	if n.Many() != many || n.Lost() != lost {
		t.Fatalf("%d are there, not %d; %d were lost, not %d", n.Many(), many, n.Lost(), lost)
	}
}

// takes: the k-th one is that one.
func takes(t *testing.T, n *Net, k, to int, b string) {
	t.Helper()
	if g, err := n.Take(k); err != nil || g.To != to || string(g.Bytes) != b {
		t.Fatalf("Take(%d) is %v, %v, not %d, %q", k, g, err, to, b)
	}
}

// send sends each text, the i-th one to client i.
func send(n *Net, texts ...string) {
	for i, s := range texts {
		n.Send(Gram{i, []byte(s)})
	}
}

// nothing: no call finds a k-th one, and none changes what there is.
func nothing(t *testing.T, n *Net, k int) {
	t.Helper()
	many, lost := n.Many(), n.Lost()
	if g, err := n.Take(k); g.To != 0 || len(g.Bytes) != 0 || !isRange(err) {
		t.Errorf("Take(%d) is %v, %v", k, g, err)
	}
	if err := n.Twice(k); !isRange(err) {
		t.Errorf("Twice(%d) is %v", k, err)
	}
	for _, at := range []int{0, 1, -1} {
		if err := n.Spoil(k, at, 1); !isRange(err) {
			t.Errorf("Spoil(%d, %d) is %v", k, at, err)
		}
	}
	has(t, n, many, lost)
}

func TestEmpty(t *testing.T) {
	var n Net
	has(t, &n, 0, 0)
	for _, k := range []int{0, 1, -1, math.MinInt, math.MaxInt} {
		nothing(t, &n, k)
	}
}

func TestTake(t *testing.T) {
	var n Net
	send(&n, "a", "b", "c", "d")
	has(t, &n, 4, 0)
	takes(t, &n, 1, 1, "b")
	has(t, &n, 3, 0)
	n.Send(Gram{-1, []byte("e")})
	takes(t, &n, 3, -1, "e")
	takes(t, &n, 2, 3, "d")
	takes(t, &n, 0, 0, "a")
	takes(t, &n, 0, 2, "c")
	has(t, &n, 0, 0)
	nothing(t, &n, 0)
}

// TestAnyGram: to whom, and what, are not asked.
func TestAnyGram(t *testing.T) {
	var n Net
	for _, to := range []int{-1, 0, 4, -77, math.MinInt, math.MaxInt} {
		n.Send(Gram{To: to})
		n.Send(Gram{to, []byte{}})
		n.Send(Gram{to, []byte("\x00\xff\x80")})
		takes(t, &n, 0, to, "")
		takes(t, &n, 0, to, "")
		takes(t, &n, 0, to, "\x00\xff\x80")
	}
}

func TestBeyond(t *testing.T) {
	var n Net
	send(&n, "a", "bc")
	for _, k := range []int{2, 3, api.MaxNet, -1, -2, math.MinInt, math.MaxInt} {
		nothing(t, &n, k)
	}
	takes(t, &n, 0, 0, "a")
	nothing(t, &n, 1)
	takes(t, &n, 0, 1, "bc")
}

func TestTwice(t *testing.T) {
	var n Net
	send(&n, "a", "b", "c")
	for _, k := range []int{1, 0, 3} {
		if err := n.Twice(k); err != nil {
			t.Fatalf("Twice(%d) is %v", k, err)
		}
	}
	has(t, &n, 6, 0)
	for i, s := range []string{"a", "b", "c", "b", "a", "b"} {
		takes(t, &n, 0, []int{0, 1, 2, 1, 0, 1}[i], s)
	}
}

func TestSpoil(t *testing.T) {
	var n Net
	send(&n, "abc", "abc", "")
	for _, c := range []struct {
		at   int
		what byte
	}{{0, 1}, {2, 255}, {1, 0}, {0, 2}} {
		if err := n.Spoil(1, c.at, c.what); err != nil {
			t.Fatalf("Spoil(1, %d, %d) is %v", c.at, c.what, err)
		}
	}
	for _, c := range [][2]int{{1, 3}, {1, 4}, {1, -1}, {1, math.MinInt}, {1, math.MaxInt}, {2, 0}, {2, -1}, {0, 3}} {
		if err := n.Spoil(c[0], c[1], 7); !isRange(err) {
			t.Errorf("Spoil(%d, %d) is %v", c[0], c[1], err)
		}
	}
	has(t, &n, 3, 0)
	takes(t, &n, 1, 1, string([]byte{'a' ^ 3, 'b', 'c' ^ 255}))
	takes(t, &n, 0, 0, "abc")
	takes(t, &n, 0, 2, "")
}

// TestDouble: what was sent once more is its own one: spoiling one leaves the other.
func TestDouble(t *testing.T) {
	var n Net
	send(&n, "ab")
	for k := range 2 {
		if err := n.Twice(k); err != nil {
			t.Fatal(err)
		}
	}
	for k := range 2 {
		if err := n.Spoil(k, k, 1); err != nil {
			t.Fatal(err)
		}
	}
	if err := n.Twice(1); err != nil { // as it is now
		t.Fatal(err)
	}
	for _, s := range []string{"`b", "ac", "ab", "ac"} {
		takes(t, &n, 0, 0, s)
	}
}

// TestFull: with MaxNet of them what is sent, and sent once more, is lost, until there is room again.
func TestFull(t *testing.T) {
	var n Net
	for i := range api.MaxNet {
		has(t, &n, i, 0)
		n.Send(Gram{i, []byte{byte(i)}})
	}
	has(t, &n, api.MaxNet, 0)
	n.Send(Gram{777, []byte("lost")})
	has(t, &n, api.MaxNet, 1)
	for _, k := range []int{0, 5, api.MaxNet - 1} {
		if err := n.Twice(k); err != nil {
			t.Errorf("Twice(%d) is %v", k, err)
		}
	}
	has(t, &n, api.MaxNet, 4)
	nothing(t, &n, api.MaxNet)
	nothing(t, &n, -1)
	takes(t, &n, 10, 10, "\x0a")
	if err := n.Twice(3); err != nil {
		t.Error(err)
	}
	has(t, &n, api.MaxNet, 4)
	n.Send(Gram{})
	has(t, &n, api.MaxNet, 5)
	for i := range api.MaxNet {
		to := i
		if i == api.MaxNet-1 {
			to = 3
		} else if i >= 10 {
			to++
		}
		takes(t, &n, 0, to, string([]byte{byte(to)}))
	}
	has(t, &n, 0, 5)
}

// TestMemory: what is sent is not kept as a list, nor written into; what is taken is the taker's alone.
func TestMemory(t *testing.T) {
	var n Net
	room := []byte("abcdef")
	n.Send(Gram{1, room[:3]})
	n.Send(Gram{2, room[:3]})
	if err := n.Spoil(0, 0, 255); err != nil {
		t.Fatal(err)
	}
	if string(room) != "abcdef" {
		t.Errorf("what was sent was written into: %q", room)
	}
	clear(room)
	if err := n.Twice(1); err != nil {
		t.Fatal(err)
	}
	g, err := n.Take(1)
	if err != nil || string(g.Bytes) != "abc" {
		t.Fatalf("what was sent is %v, %v", g, err)
	}
	clear(g.Bytes[:cap(g.Bytes)])
	takes(t, &n, 1, 2, "abc")
	takes(t, &n, 0, 1, string([]byte{'a' ^ 255, 'b', 'c'}))
}

// TestTwoNets: a net hangs on its own calls alone.
func TestTwoNets(t *testing.T) {
	var one, two Net
	send(&one, "a", "b")
	has(t, &two, 0, 0)
	send(&two, "c")
	takes(t, &one, 0, 0, "a")
	takes(t, &two, 0, 0, "c")
	has(t, &one, 1, 0)
}

// model is a net as the document tells it, a list of lists.
type model struct {
	grams []Gram
	lost  int
}

func (m *model) send(g Gram) {
	if len(m.grams) == api.MaxNet {
		m.lost++
		return
	}
	m.grams = append(m.grams, Gram{g.To, bytes.Clone(g.Bytes)})
}

// step does one thing by both, and says whether they tell the same.
func (m *model) step(n *Net, d *die, more int) bool {
	k := d.below(len(m.grams)+4) - 2
	in := k >= 0 && k < len(m.grams)
	switch d.below(4 + more) {
	case 0:
		g, err := n.Take(k)
		if !in {
			return g.To == 0 && len(g.Bytes) == 0 && isRange(err)
		}
		want := m.grams[k]
		m.grams = slices.Delete(m.grams, k, k+1)
		return err == nil && g.To == want.To && bytes.Equal(g.Bytes, want.Bytes)
	case 1:
		err := n.Twice(k)
		if !in {
			return isRange(err)
		}
		m.send(m.grams[k])
		return err == nil
	case 2:
		at, what := d.below(6)-1, byte(d.below(256))
		err := n.Spoil(k, at, what)
		if !in || at < 0 || at >= len(m.grams[k].Bytes) {
			return isRange(err)
		}
		m.grams[k].Bytes[at] ^= what
		return err == nil
	default:
		g := Gram{d.below(6) - 1, bytes.Repeat([]byte{byte(d.below(256))}, d.below(5))}
		n.Send(g)
		m.send(g)
		clear(g.Bytes)
		return true
	}
}

func TestAgainstModel(t *testing.T) {
	d := die(5)
	lost := 0
	for range 100 {
		var n Net
		var m model
		more := d.below(6)
		for i := range 1000 {
			if !m.step(&n, &d, more) {
				t.Fatalf("step %d tells something else", i)
			}
			has(t, &n, len(m.grams), m.lost)
		}
		for range m.grams {
			g := m.grams[0]
			m.grams = m.grams[1:]
			takes(t, &n, 0, g.To, string(g.Bytes))
		}
		lost += m.lost
	}
	if lost == 0 {
		t.Error("none was ever lost")
	}
}
