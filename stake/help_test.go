package stake_test

import (
	"math"
	"slices"
	"testing"

	"suzerain/api"
	"suzerain/stake"
)

// all is how many tokens there are: four grants of 100000.
const all = 400000

// mixed is a good stake with something everywhere: whole shares on 0, slashed ones on 1, a dead 2 without tokens,
// nothing on 3, a jailed 4, and on 5 more tokens than shares.
func mixed() api.Stake {
	return api.Stake{
		Bank: api.Bank{Free: [api.Delegators]int{99000, 99500, 99090, 99900}, Bonded: 2135, Waiting: 280, Burnt: 95},
		Validators: [api.Validators]api.Validator{
			{Tokens: 1000, Shares: 1000},
			{Tokens: 855, Shares: 900, Lost: 50},
			{Shares: 40, Lost: 45, Jailed: true, Dead: true},
			{},
			{Tokens: 250, Shares: 250, Jailed: true},
			{Tokens: 30, Shares: 10},
		},
		Shares: [api.Delegators][api.Validators]int{
			{700, 0, 0, 0, 0, 0},
			{300, 200, 0, 0, 250, 0},
			{0, 700, 0, 0, 0, 0},
			{0, 0, 40, 0, 0, 10},
		},
		Waits: []api.Wait{
			{Number: 1, D: 1, V: 1, Amount: 95, Height: 3, Due: 20, Holds: [api.Consumers]int{3, 0}},
			{Number: 3, D: 0, V: 0, Amount: 120, Height: 4, Due: 22, Holds: [api.Consumers]int{4, 5}},
			{Number: 4, D: 2, V: 1, Amount: 60, Height: 5, Due: 25},
			{Number: 7, D: 3, V: 2, Amount: 5, Height: 6, Due: 26, Holds: [api.Consumers]int{0, 6}},
		},
		Next: 9,
	}
}

// with is the mixed stake behind a change.
func with(change func(s *api.Stake)) api.Stake {
	s := mixed()
	change(&s)
	return s
}

// waiting is a good stake with n unbondings, of 1 token each.
func waiting(n int) api.Stake {
	s := stake.New()
	s.Bank.Free[0] -= 1000 + n
	s.Bank.Bonded, s.Bank.Waiting = 1000, n
	s.Validators[0] = api.Validator{Tokens: 1000, Shares: 1000}
	s.Shares[0][0] = 1000
	for range n {
		s.Waits = append(s.Waits, api.Wait{Number: s.Next, Amount: 1})
		s.Next++
	}
	return s
}

// alone is a good stake with tokens and shares on validator 3 alone, the shares being delegator 2's.
func alone(tokens, shares int) api.Stake {
	s := stake.New()
	s.Bank = api.Bank{Free: [api.Delegators]int{all - tokens, 0, 0, 0}, Bonded: tokens}
	s.Validators[3] = api.Validator{Tokens: tokens, Shares: shares}
	s.Shares[2][3] = shares
	return s
}

// roomy is a stake with spare room behind its waits, and that room.
func roomy(s api.Stake) (api.Stake, []api.Wait) {
	l := make([]api.Wait, len(s.Waits)+3)
	copy(l, s.Waits)
	for i := len(s.Waits); i < len(l); i++ {
		l[i] = api.Wait{Number: -77, Amount: -88}
	}
	s.Waits = l[:len(s.Waits)]
	return s, l
}

// same is whether two stakes are alike; nil or not is no matter.
func same(a, b api.Stake) bool {
	return a.Bank == b.Bank && a.Validators == b.Validators && a.Shares == b.Shares && a.Next == b.Next && slices.Equal(a.Waits, b.Waits)
}

func check(t *testing.T, what string, s api.Stake, e api.Errno, want api.Stake, code api.Errno) {
	t.Helper()
	if !same(s, want) || e != code {
		t.Errorf("%s: %v, %d; want %v, %d", what, s, e, want, code)
	}
	if e == api.OK && !stake.Good(s) {
		t.Errorf("%s: %v is not good", what, s)
	}
}

// noValidators and noDelegators are numbers of none.
func noValidators() []int {
	return []int{math.MinInt, -api.Validators, -1, api.Validators, api.Validators + 1, 1 << 32, math.MaxInt}
}

func noDelegators() []int {
	return []int{math.MinInt, -api.Delegators, -1, api.Delegators, api.Delegators + 1, 1 << 32, math.MaxInt}
}

// call is a call of the package on a stake; of Pay and Slash what else is answered must be nothing with an error.
type call struct {
	name string
	do   func(t *testing.T, s api.Stake, d, v, n int) (api.Stake, api.Errno)
}

// onValidators are the calls that ask for a validator; those of a delegator, too, come first.
func onValidators() []call {
	return []call{
		{"Delegate", func(t *testing.T, s api.Stake, d, v, n int) (api.Stake, api.Errno) {
			return stake.Delegate(s, d, v, n)
		}},
		{"Undelegate", func(t *testing.T, s api.Stake, d, v, n int) (api.Stake, api.Errno) {
			return stake.Undelegate(s, d, v, n, api.Wait{Height: n})
		}},
		{"Slash", func(t *testing.T, s api.Stake, d, v, n int) (api.Stake, api.Errno) {
			after, burnt, e := stake.Slash(s, v, 0, n)
			if e != api.OK && burnt != 0 {
				t.Errorf("Slash: %d with the error %d", burnt, e)
			}
			return after, e
		}},
		{"Jail", func(t *testing.T, s api.Stake, d, v, n int) (api.Stake, api.Errno) { return stake.Jail(s, v) }},
		{"Unjail", func(t *testing.T, s api.Stake, d, v, n int) (api.Stake, api.Errno) { return stake.Unjail(s, v) }},
		{"Bury", func(t *testing.T, s api.Stake, d, v, n int) (api.Stake, api.Errno) { return stake.Bury(s, v) }},
	}
}

// calls are all calls that ask first whether a stake is good.
func calls() []call {
	return append(onValidators(), call{"Pay", func(t *testing.T, s api.Stake, d, v, n int) (api.Stake, api.Errno) {
		after, paid, e := stake.Pay(s, n)
		if e != api.OK && len(paid) != 0 {
			t.Errorf("Pay: %v with the error %d", paid, e)
		}
		return after, e
	}})
}
