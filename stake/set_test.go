package stake_test

import (
	"math"
	"slices"
	"testing"

	"suzerain/api"
	"suzerain/stake"
)

func checkPowers(t *testing.T, what string, l, want []api.Power) {
	t.Helper()
	if !slices.Equal(l, want) {
		t.Errorf("%s: %v; want %v", what, l, want)
	}
}

// bonded is a good stake with these tokens on the validators.
func bonded(tokens [api.Validators]int) api.Stake {
	s := stake.New()
	s.Bank = api.Bank{}
	for v, n := range tokens {
		s.Validators[v] = api.Validator{Tokens: n, Shares: n}
		s.Shares[v%api.Delegators][v] = n
		s.Bank.Bonded += n
	}
	s.Bank.Free[1] = all - s.Bank.Bonded
	return s
}

// P4.9
func TestSet(t *testing.T) {
	for _, x := range []struct {
		tokens [api.Validators]int
		want   []api.Power
	}{
		{[api.Validators]int{}, nil},
		{[api.Validators]int{99, 1, 50, 99, 0, 99}, nil},
		{[api.Validators]int{99, 100, 101, 199, 200, 0}, []api.Power{{V: 1, N: 1}, {V: 2, N: 1}, {V: 3, N: 1}, {V: 4, N: 2}}},
		{[api.Validators]int{100, 200, 300, 400, 500, 600}, []api.Power{{V: 2, N: 3}, {V: 3, N: 4}, {V: 4, N: 5}, {V: 5, N: 6}}},
		{[api.Validators]int{600, 500, 400, 300, 200, 100}, []api.Power{{V: 0, N: 6}, {V: 1, N: 5}, {V: 2, N: 4}, {V: 3, N: 3}}},
		{[api.Validators]int{100, 100, 100, 100, 100, 100}, []api.Power{{V: 0, N: 1}, {V: 1, N: 1}, {V: 2, N: 1}, {V: 3, N: 1}}},
		// More tokens of the same power do not count.
		{[api.Validators]int{100, 110, 120, 130, 199, 199}, []api.Power{{V: 0, N: 1}, {V: 1, N: 1}, {V: 2, N: 1}, {V: 3, N: 1}}},
		{[api.Validators]int{100, 299, 100, 200, 100, 900}, []api.Power{{V: 0, N: 1}, {V: 1, N: 2}, {V: 3, N: 2}, {V: 5, N: 9}}},
		{[api.Validators]int{0, 0, 0, 0, 0, all}, []api.Power{{V: 5, N: 4000}}},
	} {
		s := bonded(x.tokens)
		if !stake.Good(s) {
			t.Fatalf("%v is not good", s)
		}
		checkPowers(t, "Set", stake.Set(s), x.want)
	}
	checkPowers(t, "Set", stake.Set(mixed()), []api.Power{{V: 0, N: 10}, {V: 1, N: 8}})
	checkPowers(t, "Set of a new stake", stake.Set(stake.New()), nil)
}

// P4.9: power is of tokens, not of shares; who is jailed makes room.
func TestSetOfWhoIsNotJailed(t *testing.T) {
	s := bonded([api.Validators]int{100, 200, 300, 400, 500, 600})
	s, _ = stake.Jail(s, 5)
	s, _ = stake.Bury(s, 3)
	checkPowers(t, "Set", stake.Set(s), []api.Power{{V: 0, N: 1}, {V: 1, N: 2}, {V: 2, N: 3}, {V: 4, N: 5}})
	s, _ = stake.Unjail(s, 5)
	checkPowers(t, "Set", stake.Set(s), []api.Power{{V: 1, N: 2}, {V: 2, N: 3}, {V: 4, N: 5}, {V: 5, N: 6}})
	checkPowers(t, "Set", stake.Set(alone(450, api.MaxAmount)), []api.Power{{V: 3, N: 4}})
	checkPowers(t, "Set", stake.Set(alone(99, api.MaxAmount)), nil)
}

// P4.9: a validator is in the set just if fewer than MaxSet come ahead of it.
func TestSetOfAllKinds(t *testing.T) {
	few := [5]int{0, 150, 220, 280, 350}
	for code := range 5 * 5 * 5 * 5 * 5 * 5 {
		var tokens [api.Validators]int
		for v, rest := 0, code; v < api.Validators; v, rest = v+1, rest/5 {
			tokens[v] = few[rest%5]
		}
		s := bonded(tokens)
		s.Validators[code%7%api.Validators].Jailed = code%2 == 0
		checkPowers(t, "Set", stake.Set(s), ranked(s))
	}
}

func ranked(s api.Stake) []api.Power {
	var powers [api.Validators]int
	for v, at := range s.Validators {
		if !at.Jailed {
			powers[v] = at.Tokens / 100
		}
	}
	var l []api.Power
	for v, n := range powers {
		ahead := 0
		for u, m := range powers {
			if m > n || m == n && u < v {
				ahead++
			}
		}
		if n > 0 && ahead < 4 {
			l = append(l, api.Power{V: v, N: n})
		}
	}
	return l
}

// P4.9: of a stake that is not good nothing is promised but an end.
func TestSetOfABadStakeEnds(t *testing.T) {
	for _, s := range badStakes() {
		stake.Set(s)
	}
	for _, n := range []int{math.MinInt, math.MaxInt} {
		s := stake.New()
		for v := range s.Validators {
			s.Validators[v].Tokens = n
		}
		stake.Set(s)
	}
}

// P4.9
func TestDiff(t *testing.T) {
	for _, x := range []struct{ a, b, want []api.Power }{
		{nil, nil, nil},
		{[]api.Power{{V: 1, N: 5}, {V: 2, N: 3}}, []api.Power{{V: 1, N: 5}, {V: 2, N: 3}}, nil},
		{[]api.Power{{V: 1, N: 5}, {V: 2, N: 3}}, []api.Power{{V: 1, N: 6}, {V: 4, N: 1}}, []api.Power{{V: 1, N: 6}, {V: 2}, {V: 4, N: 1}}},
		{nil, []api.Power{{V: 0, N: 7}, {V: 5, N: 1}}, []api.Power{{V: 0, N: 7}, {V: 5, N: 1}}},
		{[]api.Power{{V: 0, N: 7}, {V: 5, N: 1}}, nil, []api.Power{{V: 0}, {V: 5}}},
		// By number, whatever the order of the lists.
		{[]api.Power{{V: 5, N: 2}, {V: 0, N: 2}}, []api.Power{{V: 4, N: 1}, {V: 3, N: 9}, {V: 5, N: 3}}, []api.Power{{V: 0}, {V: 3, N: 9}, {V: 4, N: 1}, {V: 5, N: 3}}},
		// A power of 0 is that of who is not there.
		{[]api.Power{{V: 3}}, nil, nil}, {nil, []api.Power{{V: 3}}, nil},
		// The first one counts, be it 0.
		{[]api.Power{{V: 3, N: 1}, {V: 3, N: 2}}, []api.Power{{V: 3, N: 1}}, nil},
		{[]api.Power{{V: 3, N: 1}}, []api.Power{{V: 3, N: 1}, {V: 3, N: 2}, {V: 3, N: 4}}, nil},
		{[]api.Power{{V: 3, N: 1}}, []api.Power{{V: 3, N: 2}, {V: 1, N: 6}, {V: 3, N: 1}}, []api.Power{{V: 1, N: 6}, {V: 3, N: 2}}},
		{[]api.Power{{V: 3, N: 1}}, []api.Power{{V: 3}, {V: 3, N: 1}}, []api.Power{{V: 3}}},
		{[]api.Power{{V: 3}, {V: 3, N: 1}}, []api.Power{{V: 3, N: 1}}, []api.Power{{V: 3, N: 1}}},
		// What is no validator is in no answer; a power may be any number.
		{[]api.Power{{V: -1, N: 1}, {V: 6, N: 2}}, []api.Power{{V: 7, N: 3}, {V: math.MinInt, N: 4}, {V: math.MaxInt, N: 5}}, nil},
		{[]api.Power{{V: 0, N: -1}, {V: 1, N: math.MaxInt}}, []api.Power{{V: 0, N: math.MinInt}, {V: 1, N: math.MaxInt}}, []api.Power{{V: 0, N: math.MinInt}}},
	} {
		checkPowers(t, "Diff", stake.Diff(x.a, x.b), x.want)
	}
}

// P4.9
func TestApply(t *testing.T) {
	for _, x := range []struct{ a, d, want []api.Power }{
		{nil, nil, nil},
		{[]api.Power{{V: 1, N: 5}, {V: 2, N: 3}}, nil, []api.Power{{V: 1, N: 5}, {V: 2, N: 3}}},
		{[]api.Power{{V: 1, N: 5}, {V: 2, N: 3}}, []api.Power{{V: 1, N: 6}, {V: 2}, {V: 4, N: 1}}, []api.Power{{V: 1, N: 6}, {V: 4, N: 1}}},
		{nil, []api.Power{{V: 5, N: 1}, {V: 0, N: 7}}, []api.Power{{V: 0, N: 7}, {V: 5, N: 1}}},
		{[]api.Power{{V: 5, N: 1}, {V: 0, N: 7}}, []api.Power{{V: 3}}, []api.Power{{V: 0, N: 7}, {V: 5, N: 1}}},
		// More than MaxSet may come of it.
		{[]api.Power{{V: 0, N: 1}, {V: 1, N: 1}, {V: 2, N: 1}, {V: 3, N: 1}}, []api.Power{{V: 4, N: 1}, {V: 5, N: 1}},
			[]api.Power{{V: 0, N: 1}, {V: 1, N: 1}, {V: 2, N: 1}, {V: 3, N: 1}, {V: 4, N: 1}, {V: 5, N: 1}}},
		// The last one counts, be it 0.
		{[]api.Power{{V: 3, N: 9}}, []api.Power{{V: 3, N: 1}, {V: 2, N: 8}, {V: 3, N: 2}}, []api.Power{{V: 2, N: 8}, {V: 3, N: 2}}},
		{[]api.Power{{V: 3, N: 9}}, []api.Power{{V: 3, N: 1}, {V: 3}}, nil},
		{[]api.Power{{V: 3, N: 9}}, []api.Power{{V: 3}, {V: 3, N: 1}}, []api.Power{{V: 3, N: 1}}},
		{[]api.Power{{V: 3, N: 9}, {V: 3, N: 8}}, nil, []api.Power{{V: 3, N: 8}}},
		// Only powers above 0, and only of validators.
		{[]api.Power{{V: 0, N: -1}, {V: 1}, {V: 2, N: math.MinInt}, {V: 3, N: 1}}, []api.Power{{V: 3, N: -1}, {V: 4, N: math.MaxInt}}, []api.Power{{V: 4, N: math.MaxInt}}},
		{[]api.Power{{V: -1, N: 1}, {V: 6, N: 2}}, []api.Power{{V: 7, N: 3}, {V: math.MinInt, N: 4}, {V: math.MaxInt, N: 5}}, nil},
	} {
		checkPowers(t, "Apply", stake.Apply(x.a, x.d), x.want)
	}
}

// P4.9: what changes, applied, makes the one set of the other.
func TestApplyOfDiff(t *testing.T) {
	sets := make([][]api.Power, 0, 3*3*3*3*3*3)
	for code := range cap(sets) {
		var l []api.Power
		for v, rest := 0, code; v < api.Validators; v, rest = v+1, rest/3 {
			if rest%3 > 0 {
				l = append(l, api.Power{V: v, N: rest % 3})
			}
		}
		sets = append(sets, l)
	}
	for _, a := range sets {
		for _, b := range sets {
			checkPowers(t, "Apply of Diff", stake.Apply(a, stake.Diff(a, b)), b)
		}
	}
}

// P4.9
func TestAll(t *testing.T) {
	for _, x := range []struct {
		l    []api.Power
		want int
	}{
		{nil, 0}, {[]api.Power{}, 0}, {[]api.Power{{V: 1, N: 5}, {V: 2, N: 3}}, 8}, {[]api.Power{{V: 1, N: 5}, {V: 1, N: 3}, {V: 9, N: 1}, {V: -1, N: -20}}, -11},
		{[]api.Power{{N: api.MaxAmount}, {N: api.MaxAmount}}, 2 * api.MaxAmount},
		{[]api.Power{{N: math.MaxInt}, {N: 1}}, math.MinInt}, {[]api.Power{{N: math.MinInt}, {N: -1}}, math.MaxInt},
	} {
		if n := stake.All(x.l); n != x.want {
			t.Errorf("All(%v): %d; want %d", x.l, n, x.want)
		}
	}
}

// Lists that are handed in are not changed, nor is their spare room.
func TestPowersAreNotChanged(t *testing.T) {
	a := []api.Power{{V: 5, N: 1}, {V: 2, N: 3}, {V: 2}, {V: 77, N: 7}, {V: 78, N: 8}}
	d := []api.Power{{V: 4, N: 6}, {V: 2, N: 9}, {V: 0, N: -1}, {V: 79, N: 9}}
	x, y := slices.Clone(a), slices.Clone(d)
	stake.Diff(a[:3], d[:3])
	stake.Apply(a[:3], d[:3])
	stake.All(a[:3])
	checkPowers(t, "the first list", a, x)
	checkPowers(t, "the second list", d, y)
}
