package clock

import (
	"math"
	"math/big"
	"testing"

	"tenure/api"
	"tenure/plain"
)

const maxTime = api.MaxTime

// die: numbers that look drawn, the same each time.
type die uint64

func (d *die) below(most int) int {
	*d = *d*6364136223846793005 + 1442695040888963407
	return int(uint64(*d>>11) % uint64(most))
}

// beyond are numbers that are not from 0 to most; with the last ones a product with 1000 wraps round to 0, or to a small number.
func beyond(most int) []int {
	return []int{-1, -2, -most, math.MinInt, math.MinInt + 1, most + 1, 2*most + 1, math.MaxInt, 1 << 61, 1 << 62, -1 << 61, 18446744073709552}
}

// isRange says whether an answer is ErrRange, without a place, and 0 beside it.
func isRange(n int, err error) bool {
	e, bare := plain.Bare(err)
	return n == 0 && e == api.ErrRange && bare
}

func TestHonest(t *testing.T) {
	for _, c := range []struct {
		drift, gone, local int
		want               bool
	}{
		// A drift of a tenth.
		{100, 1000, 900, true}, {100, 1000, 899, false},
		{100, 1000, 1100, true}, {100, 1000, 1101, false},
		{100, 1000, 1000, true}, {100, 1000, 0, false},
		// The ends are no whole numbers: 4.5 and 5.5, 2.997 and 3.003.
		{100, 5, 4, false}, {100, 5, 5, true}, {100, 5, 6, false},
		{1, 3, 2, false}, {1, 3, 3, true}, {1, 3, 4, false},
		{500, 1, 0, false}, {500, 1, 1, true}, {500, 1, 2, false},
		{500, 3, 1, false}, {500, 3, 2, true}, {500, 3, 4, true}, {500, 3, 5, false},
		// No drift: just what went by.
		{0, 0, 0, true}, {0, 0, 1, false}, {0, 7, 6, false}, {0, 7, 7, true}, {0, 7, 8, false},
		{0, maxTime, maxTime, true}, {0, maxTime, maxTime - 1, false}, {0, maxTime, maxTime + 1, false},
		// The greatest drift.
		{api.MaxDrift, 0, 0, true}, {api.MaxDrift, 0, 1, false},
		{api.MaxDrift, 2, 1, true}, {api.MaxDrift, 2, 3, true}, {api.MaxDrift, 2, 0, false}, {api.MaxDrift, 2, 4, false},
		{api.MaxDrift, maxTime, maxTime / 2, true}, {api.MaxDrift, maxTime, maxTime/2 - 1, false},
		{api.MaxDrift, maxTime, maxTime / 2 * 3, true}, {api.MaxDrift, maxTime, maxTime/2*3 + 1, false},
		// The greatest local, and one beyond it.
		{api.MaxDrift, maxTime, 2 * maxTime, false}, {0, maxTime, 2 * maxTime, false}, {0, maxTime, 2*maxTime + 1, false},
	} {
		if got := Honest(c.drift, c.gone, c.local); got != c.want {
			t.Errorf("Honest(%d, %d, %d) is %v", c.drift, c.gone, c.local, got)
		}
	}
}

func TestHonestOfWrongNumbers(t *testing.T) {
	for _, drift := range beyond(api.MaxDrift) {
		for _, time := range []int{0, 1, 1000, maxTime} {
			if Honest(drift, time, time) {
				t.Errorf("Honest(%d, %d, %d)", drift, time, time)
			}
		}
	}
	locals := append(beyond(maxTime), 0, 1, 1000, maxTime, 2*maxTime)
	for _, drift := range []int{0, 100, api.MaxDrift} {
		for _, gone := range beyond(maxTime) {
			for _, local := range locals {
				if Honest(drift, gone, local) {
					t.Errorf("Honest(%d, %d, %d)", drift, gone, local)
				}
			}
		}
		for _, local := range beyond(2 * maxTime) {
			for _, gone := range []int{0, 1, 1000, maxTime} {
				if Honest(drift, gone, local) {
					t.Errorf("Honest(%d, %d, %d)", drift, gone, local)
				}
			}
		}
	}
}

func TestShort(t *testing.T) {
	for _, c := range []struct{ drift, term, want int }{
		{100, 1100, 900}, {100, 1099, 899}, {100, 1101, 900}, {100, 1102, 901},
		{100, 1, 0}, {100, 2, 1}, {1, 1, 0}, {1, 2, 1}, {1, 1001, 999},
		{0, 0, 0}, {0, 1, 1}, {0, 8, 8}, {0, maxTime, maxTime},
		{api.MaxDrift, 0, 0}, {api.MaxDrift, 2, 0}, {api.MaxDrift, 3, 1}, {api.MaxDrift, 5, 1}, {api.MaxDrift, 6, 2},
		{api.MaxDrift, maxTime, maxTime / 3},
		{100, 0, 0},
	} {
		if got, err := Short(c.drift, c.term); got != c.want || err != nil {
			t.Errorf("Short(%d, %d) is %d, %v, not %d", c.drift, c.term, got, err, c.want)
		}
	}
}

func TestShortOfWrongNumbers(t *testing.T) {
	for _, drift := range append(beyond(api.MaxDrift), 1000, -1000) {
		for _, term := range []int{0, 1, 1100, maxTime, -1, maxTime + 1} {
			if n, err := Short(drift, term); !isRange(n, err) {
				t.Errorf("Short(%d, %d) is %d, %v", drift, term, n, err)
			}
		}
	}
	for _, term := range beyond(maxTime) {
		for _, drift := range []int{0, 100, api.MaxDrift} {
			if n, err := Short(drift, term); !isRange(n, err) {
				t.Errorf("Short(%d, %d) is %d, %v", drift, term, n, err)
			}
		}
	}
}

func TestAdd(t *testing.T) {
	for _, c := range []struct{ a, b, want int }{
		{0, 0, 0}, {0, 1, 1}, {1, 0, 1}, {20, 8, 28}, {8, 20, 28},
		{0, maxTime, maxTime}, {maxTime, 0, maxTime}, {maxTime, 1, maxTime}, {1, maxTime, maxTime}, {maxTime, maxTime, maxTime},
		{maxTime - 1, 0, maxTime - 1}, {maxTime - 2, 1, maxTime - 1}, {maxTime - 1, 1, maxTime}, {maxTime - 1, 2, maxTime},
		{maxTime / 2, maxTime / 2, maxTime}, {maxTime / 2, maxTime/2 - 1, maxTime - 1}, {maxTime / 2, maxTime/2 + 1, maxTime},
	} {
		if got, err := Add(c.a, c.b); got != c.want || err != nil {
			t.Errorf("Add(%d, %d) is %d, %v, not %d", c.a, c.b, got, err, c.want)
		}
	}
}

func TestAddOfWrongNumbers(t *testing.T) {
	for _, wrong := range beyond(maxTime) {
		for _, other := range append(beyond(maxTime), 0, 1, 5, maxTime, -wrong) {
			if n, err := Add(wrong, other); !isRange(n, err) {
				t.Errorf("Add(%d, %d) is %d, %v", wrong, other, n, err)
			}
			if n, err := Add(other, wrong); !isRange(n, err) {
				t.Errorf("Add(%d, %d) is %d, %v", other, wrong, n, err)
			}
		}
	}
}

// times, as whole numbers of any size.
func times(a, b int) *big.Int {
	return new(big.Int).Mul(big.NewInt(int64(a)), big.NewInt(int64(b)))
}

// TestBigNumbers holds the answers against the document's words, by numbers that don't wrap round.
func TestBigNumbers(t *testing.T) {
	d := die(1)
	for range 20_000 {
		drift, gone := d.below(api.MaxDrift+1), d.below(2<<d.below(40))
		want := new(big.Int).Quo(times(gone, 1000-drift), big.NewInt(int64(1000+drift)))
		if got, err := Short(drift, gone); err != nil || big.NewInt(int64(got)).Cmp(want) != 0 {
			t.Errorf("Short(%d, %d) is %d, %v, not %v", drift, gone, got, err, want)
		}
		least, most := times(gone, 1000-drift), times(gone, 1000+drift)
		for _, near := range []*big.Int{least, most} {
			at := int(new(big.Int).Quo(near, big.NewInt(1000)).Int64())
			for local := max(0, at-1); local <= at+2; local++ {
				shown := times(1000, local)
				honest := least.Cmp(shown) <= 0 && shown.Cmp(most) <= 0
				if got := Honest(drift, gone, local); got != honest {
					t.Errorf("Honest(%d, %d, %d) is %v", drift, gone, local, got)
				}
			}
		}
	}
}

// TestShortIsShortEnough: while time goes by, a clock goes on by a term only if each other honest one has gone on by its Short.
func TestShortIsShortEnough(t *testing.T) {
	for _, drift := range []int{0, 1, 2, 99, 100, 333, 499, api.MaxDrift} {
		for gone := range 300 {
			least, most := -1, -1
			for local := range 2*gone + 2 {
				if Honest(drift, gone, local) {
					if least < 0 {
						least = local
					}
					most = local
				}
			}
			if least < 0 {
				t.Fatalf("drift %d: no clock is honest while %d goes by", drift, gone)
			}
			checkShort(t, drift, gone, least, most)
		}
	}
}

// checkShort: of all terms that the fastest clock may have shown, none is Short for longer than the slowest one showed.
func checkShort(t *testing.T, drift, gone, least, most int) {
	t.Helper()
	for term := range most + 1 {
		if short, err := Short(drift, term); err != nil || short > least {
			t.Errorf("drift %d, while %d goes by: one clock shows %d, another one %d; Short of %d is %d, %v", drift, gone, least, most, term, short, err)
		}
	}
}

// TestShortOfManySteps: clocks that are honest step by step are so in all, whatever each of them did in between.
func TestShortOfManySteps(t *testing.T) {
	d := die(2)
	for range 2000 {
		drift, slow, fast := d.below(api.MaxDrift+1), 0, 0
		for range 1 + d.below(20) {
			gone := d.below(2 << d.below(30))
			least := (gone*(1000-drift) + 999) / 1000
			most := gone * (1000 + drift) / 1000
			if !Honest(drift, gone, least) || !Honest(drift, gone, most) {
				t.Fatalf("drift %d, while %d goes by: %d and %d are honest", drift, gone, least, most)
			}
			slow, fast = slow+least, fast+most
		}
		if short, err := Short(drift, fast); err != nil || short > slow {
			t.Errorf("drift %d: one clock shows %d, another one %d; Short is %d, %v", drift, slow, fast, short, err)
		}
	}
}
