package stake_test

import (
	"math"
	"testing"

	"suzerain/api"
	"suzerain/stake"
)

// goodStakes are ordinary stakes, and those at the edges of what is good.
func goodStakes() []api.Stake {
	return []api.Stake{
		stake.New(), mixed(), waiting(1), waiting(api.MaxWaits), alone(0, 1), alone(1, 1), alone(all, api.MaxAmount), alone(0, api.MaxAmount),
		with(func(s *api.Stake) { s.Next = 8 }),
		with(func(s *api.Stake) { s.Next = api.MaxAmount }),
		with(func(s *api.Stake) { s.Next, s.Waits[3].Number = api.MaxAmount, api.MaxAmount-1 }),
		with(func(s *api.Stake) { s.Waits[0].Height, s.Waits[0].Due = 0, 0 }),
		with(func(s *api.Stake) { s.Waits[0].Height, s.Waits[0].Due = math.MaxInt, math.MaxInt }),
		with(func(s *api.Stake) { s.Waits[0].Amount, s.Waits[1].Amount = 0, 215 }),
		with(func(s *api.Stake) { s.Waits[0].D, s.Waits[0].V = 3, 5 }),
		// Of holds nothing is asked.
		with(func(s *api.Stake) { s.Waits[0].Holds = [api.Consumers]int{math.MinInt, math.MaxInt} }),
		with(func(s *api.Stake) { s.Validators[0].Jailed = true }),
		with(func(s *api.Stake) { s.Validators[2].Dead = false }),
		with(func(s *api.Stake) { s.Validators[1].Lost, s.Validators[3].Lost = 0, 50 }),
		with(func(s *api.Stake) { s.Validators[1].Tokens, s.Validators[0].Tokens = 0, 1855 }),
	}
}

// badStakes are stakes with one thing wrong each; sums are kept right where that one thing is not the sum.
func badStakes() map[string]api.Stake {
	m := map[string]api.Stake{
		"nothing at all":         {},
		"too many waits":         waiting(api.MaxWaits + 1),
		"far too many waits":     waiting(1000),
		"shares above MaxAmount": alone(1, api.MaxAmount+1),
		"tokens without shares":  alone(1, 0),
		"more shares of all than may be": with(func(s *api.Stake) {
			s.Shares[0][3], s.Shares[1][3], s.Validators[3].Shares = api.MaxAmount, 1, api.MaxAmount+1
		}),
		"all tokens without shares":  alone(all, 0),
		"a bank with too much":       with(func(s *api.Stake) { s.Bank.Free[0]++ }),
		"a bank with too little":     with(func(s *api.Stake) { s.Bank.Free[3]-- }),
		"a bank below 0":             with(func(s *api.Stake) { s.Bank.Free[0], s.Bank.Free[1] = -1, 198501 }),
		"Next 0":                     {Bank: stake.New().Bank},
		"Next -1":                    {Bank: stake.New().Bank, Next: -1},
		"the least Next":             {Bank: stake.New().Bank, Next: math.MinInt},
		"Next above MaxAmount":       with(func(s *api.Stake) { s.Next = api.MaxAmount + 1 }),
		"the greatest Next":          with(func(s *api.Stake) { s.Next = math.MaxInt }),
		"a wait of the next number":  with(func(s *api.Stake) { s.Next = 7 }),
		"waits behind the next":      with(func(s *api.Stake) { s.Next = 1 }),
		"dead and not jailed":        with(func(s *api.Stake) { s.Validators[2].Jailed = false }),
		"a new one dead, not jailed": with(func(s *api.Stake) { s.Validators[3].Dead = true }),
		"tokens and bonded":          with(func(s *api.Stake) { s.Validators[0].Tokens++ }),
		"bonded and tokens":          with(func(s *api.Stake) { s.Bank.Bonded, s.Bank.Free[0] = 2136, 98999 }),
		"amounts and waiting":        with(func(s *api.Stake) { s.Waits[0].Amount++ }),
		"waiting and amounts":        with(func(s *api.Stake) { s.Bank.Waiting, s.Bank.Free[0] = 281, 98999 }),
		"a wait less":                with(func(s *api.Stake) { s.Waits = s.Waits[:3] }),
		"lost and burnt":             with(func(s *api.Stake) { s.Validators[5].Lost++ }),
		"burnt and lost":             with(func(s *api.Stake) { s.Bank.Burnt, s.Bank.Free[0] = 96, 98999 }),
		"bonded for lost":            with(func(s *api.Stake) { s.Bank.Bonded, s.Bank.Burnt = 2134, 96 }),
		"tokens below 0":             with(func(s *api.Stake) { s.Validators[4].Tokens, s.Validators[0].Tokens = -1, 1251 }),
		"tokens that go round": with(func(s *api.Stake) {
			s.Validators[0].Tokens, s.Validators[1].Tokens, s.Validators[4].Tokens = math.MaxInt, math.MaxInt, 2107
		}),
		"lost below 0": with(func(s *api.Stake) { s.Validators[0].Lost, s.Validators[1].Lost = -1, 51 }),
		"lost that goes round": with(func(s *api.Stake) {
			s.Validators[0].Lost, s.Validators[1].Lost, s.Validators[2].Lost = math.MaxInt, math.MaxInt, 97
		}),
		"shares below 0": with(func(s *api.Stake) {
			s.Shares[3][5], s.Validators[5].Shares, s.Validators[5].Tokens, s.Validators[0].Tokens = -1, -1, 0, 1030
		}),
		"a delegator's shares below 0": with(func(s *api.Stake) { s.Shares[0][0], s.Shares[1][0] = -1, 1001 }),
		"a delegator's shares above MaxAmount": with(func(s *api.Stake) {
			s.Shares[0][0], s.Shares[1][0] = api.MaxAmount+1, 999-api.MaxAmount
		}),
		"shares that go round": with(func(s *api.Stake) {
			s.Shares[0][0], s.Shares[1][0], s.Shares[2][0] = math.MaxInt, math.MaxInt, 1002
		}),
	}
	addBadWaits(m)
	addBadShares(m)
	return m
}

func addBadWaits(m map[string]api.Stake) {
	m["numbers that do not rise"] = with(func(s *api.Stake) { s.Waits[1].Number, s.Waits[2].Number = 4, 3 })
	m["a number twice"] = with(func(s *api.Stake) { s.Waits[1].Number = 1 })
	m["the first number 0"] = with(func(s *api.Stake) { s.Waits[0].Number = 0 })
	m["the first number -1"] = with(func(s *api.Stake) { s.Waits[0].Number = -1 })
	m["the last number Next"] = with(func(s *api.Stake) { s.Waits[3].Number = 9 })
	m["the greatest number"] = with(func(s *api.Stake) { s.Waits[3].Number = math.MaxInt })
	m["a height below 0"] = with(func(s *api.Stake) { s.Waits[3].Height = -1 })
	m["the least height"] = with(func(s *api.Stake) { s.Waits[0].Height = math.MinInt })
	m["due below 0"] = with(func(s *api.Stake) { s.Waits[3].Due = -1 })
	m["the least due"] = with(func(s *api.Stake) { s.Waits[0].Due = math.MinInt })
	m["an amount below 0"] = with(func(s *api.Stake) { s.Waits[0].Amount, s.Waits[1].Amount = -1, 216 })
	m["an amount above MaxAmount"] = with(func(s *api.Stake) {
		s.Waits[0].Amount, s.Waits[1].Amount = api.MaxAmount+1, 214-api.MaxAmount
	})
	m["amounts that go round"] = with(func(s *api.Stake) {
		s.Waits[0].Amount, s.Waits[1].Amount, s.Waits[2].Amount = math.MaxInt, math.MaxInt, 277
	})
	for i, d := range noDelegators() {
		m["no delegator "+string(rune('a'+i))] = with(func(s *api.Stake) { s.Waits[i%4].D = d })
	}
	for i, v := range noValidators() {
		m["no validator "+string(rune('a'+i))] = with(func(s *api.Stake) { s.Waits[i%4].V = v })
	}
}

func addBadShares(m map[string]api.Stake) {
	for v := range api.Validators {
		name := " on " + string(rune('0'+v))
		m["more shares"+name] = with(func(s *api.Stake) { s.Validators[v].Shares++ })
		for d := range api.Delegators {
			m["more shares of "+string(rune('0'+d))+name] = with(func(s *api.Stake) { s.Shares[d][v]++ })
		}
		m["shares that lie elsewhere"+name] = with(func(s *api.Stake) {
			s.Shares[2][v]++
			s.Validators[(v+1)%api.Validators].Shares++
		})
	}
}

// P4.1
func TestNew(t *testing.T) {
	want := api.Stake{Bank: api.Bank{Free: [api.Delegators]int{100000, 100000, 100000, 100000}}, Next: 1}
	if s := stake.New(); !same(s, want) {
		t.Errorf("%v; want %v", s, want)
	}
}

// P4.2
func TestGood(t *testing.T) {
	for i, s := range goodStakes() {
		if !stake.Good(s) {
			t.Errorf("%d: %v is good", i, s)
		}
	}
	for name, s := range badStakes() {
		if stake.Good(s) {
			t.Errorf("%s: %v is not good", name, s)
		}
	}
}

// P4.3, P4.4, P4.6 to P4.8: that a stake is not good comes ahead of all else.
func TestABadStakeComesFirst(t *testing.T) {
	for name, s := range badStakes() {
		for _, c := range calls() {
			for _, x := range [][3]int{{0, 0, 1}, {0, 2, 1}, {1, 1, 20}, {-1, 0, 1}, {0, -1, 1}, {9, 9, 0}, {0, 2, -1}, {3, 5, math.MaxInt}} {
				after, e := c.do(t, s, x[0], x[1], x[2])
				check(t, c.name+" of "+name, after, e, s, api.ErrRange)
			}
		}
	}
}

// P4.3, P4.4, P4.7, P4.8: that there is no such validator comes next.
func TestNoSuchValidator(t *testing.T) {
	for _, v := range noValidators() {
		for _, c := range onValidators() {
			for _, x := range [][2]int{{0, 1}, {0, -1}, {-1, 1}, {4, 0}, {1, math.MaxInt}} {
				after, e := c.do(t, mixed(), x[0], v, x[1])
				check(t, c.name, after, e, mixed(), api.ErrNone)
			}
		}
	}
}

// P4.3, P4.4: and that there is no such delegator; also ahead of a dead validator and of a wrong number.
func TestNoSuchDelegator(t *testing.T) {
	for _, d := range noDelegators() {
		for _, c := range onValidators()[:2] {
			for _, x := range [][2]int{{0, 1}, {2, 1}, {0, 0}, {0, -1}, {2, -1}, {-1, 1}, {6, math.MaxInt}} {
				after, e := c.do(t, mixed(), d, x[0], x[1])
				check(t, c.name, after, e, mixed(), api.ErrNone)
			}
		}
	}
}
