// Package clock: clocks that drift, and how long is long enough.
package clock

import "tenure/api"

// whole is one, in the thousandths in which drifts are told.
const whole = 1000

// Honest says whether a clock that drifts by so many thousandths at most may go on by local, while so much time goes by.
func Honest(drift, gone, local int) (_ bool) {
	// The bounds come first: beyond them the products could wrap round.
	if !within(drift, api.MaxDrift) || !within(gone, api.MaxTime) || !within(local, 2*api.MaxTime) {
		return false
	}
	shown := whole * local
	return gone*(whole-drift) <= shown && shown <= gone*(whole+drift)
}

// Short is how long, by one clock, a term is surely not over by another one: term times (1000 - drift) / (1000 + drift), rounded down. ErrRange: a number is not from 0 to MaxTime, or MaxDrift.
func Short(drift, term int) (_ int, _ error) {
	if !within(drift, api.MaxDrift) || !within(term, api.MaxTime) {
		return 0, api.ErrRange
	}
	return term * (whole - drift) / (whole + drift), nil
}

// Add is a sum of times that stops at MaxTime. ErrRange: one is not from 0 to MaxTime.
func Add(a, b int) (_ int, _ error) {
	sum := 0
	for _, time := range [2]int{a, b} {
		if !within(time, api.MaxTime) {
			return 0, api.ErrRange
		}
		sum += time
	}
	return min(sum, api.MaxTime), nil
}

// within says whether n is from 0 to most.
func within(n, most int) bool {
	return 0 <= n && n <= most
}
