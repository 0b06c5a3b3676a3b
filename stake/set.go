package stake

import (
	"cmp"
	"slices"

	"suzerain/api"
)

// Set is the validators of the greatest powers, by number.
func Set(s api.Stake) []api.Power {
	var l []api.Power
	for v := range s.Validators {
		at := &s.Validators[v]
		if n := at.Tokens / api.Unit; n > 0 && !at.Jailed {
			l = append(l, api.Power{V: v, N: n})
		}
	}
	slices.SortFunc(l, byPower)
	l = l[:min(len(l), api.MaxSet)]
	slices.SortFunc(l, byNumber)
	return l
}

// byPower puts the greater power first, of like ones the lesser number.
func byPower(a, b api.Power) int {
	if a.N != b.N {
		return cmp.Compare(b.N, a.N)
	}
	return byNumber(a, b)
}

// byNumber puts the lesser number first.
func byNumber(a, b api.Power) int {
	return cmp.Compare(a.V, b.V)
}

// Diff is what changes from one set to another one, by number.
func Diff(a, b []api.Power) []api.Power {
	var l []api.Power
	old, now := firstPowers(a), firstPowers(b)
	for v, n := range now {
		if n != old[v] {
			l = append(l, api.Power{V: v, N: n})
		}
	}
	return l
}

// firstPowers is the power of each validator; the first one, where a list has several.
func firstPowers(l []api.Power) [api.Validators]int {
	var powers [api.Validators]int
	// From the last one on, so that the first one is what stays.
	for i := len(l) - 1; i >= 0; i-- {
		put(&powers, l[i])
	}
	return powers
}

// Apply is a set behind changes.
func Apply(a, d []api.Power) []api.Power {
	var powers [api.Validators]int
	for _, p := range a {
		put(&powers, p)
	}
	for _, p := range d {
		put(&powers, p)
	}
	var l []api.Power
	for v, n := range powers {
		if n > 0 {
			l = append(l, api.Power{V: v, N: n})
		}
	}
	return l
}

// put lays a power in its validator's place; what is no validator has none.
func put(powers *[api.Validators]int, p api.Power) {
	if isValidator(p.V) {
		powers[p.V] = p.N
	}
}

// All is the power of all of a set.
func All(l []api.Power) int {
	sum := 0
	for _, p := range l {
		sum += p.N
	}
	return sum
}
