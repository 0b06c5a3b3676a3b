package stake_test

import (
	"math"
	"slices"
	"testing"

	"suzerain/api"
	"suzerain/stake"
)

// P4.3
func TestDelegateToWhoHasNoShares(t *testing.T) {
	for d := range api.Delegators {
		want := with(func(s *api.Stake) {
			s.Bank.Free[d] -= 77
			s.Bank.Bonded += 77
			s.Validators[3] = api.Validator{Tokens: 77, Shares: 77}
			s.Shares[d][3] = 77
		})
		s, e := stake.Delegate(mixed(), d, 3, 77)
		check(t, "Delegate", s, e, want, api.OK)
	}
}

// P4.3: shares are rounded down: by less than their price, at it, and where they are cheaper or dearer than tokens.
func TestDelegateToWhoHasShares(t *testing.T) {
	for _, x := range []struct{ v, n, shares int }{
		{0, 1, 1}, {0, 700, 700},
		{1, 1, 1}, {1, 18, 18}, {1, 19, 20}, {1, 20, 21}, {1, 37, 38}, {1, 855, 900},
		{4, 250, 250},
		{5, 3, 1}, {5, 5, 1}, {5, 6, 2}, {5, 300, 100},
	} {
		want := with(func(s *api.Stake) {
			s.Bank.Free[2] -= x.n
			s.Bank.Bonded += x.n
			s.Validators[x.v].Tokens += x.n
			s.Validators[x.v].Shares += x.shares
			s.Shares[2][x.v] += x.shares
		})
		s, e := stake.Delegate(mixed(), 2, x.v, x.n)
		check(t, "Delegate", s, e, want, api.OK)
	}
}

// P4.3
func TestDelegateAllThatIsFree(t *testing.T) {
	s, e := stake.Delegate(stake.New(), 3, 5, api.Grant)
	want := stake.New()
	want.Bank.Free[3], want.Bank.Bonded = 0, api.Grant
	want.Validators[5] = api.Validator{Tokens: api.Grant, Shares: api.Grant}
	want.Shares[3][5] = api.Grant
	check(t, "Delegate of all", s, e, want, api.OK)
	s, e = stake.Delegate(want, 3, 5, 1)
	check(t, "Delegate of one more", s, e, want, api.ErrFunds)
	s, e = stake.Delegate(stake.New(), 3, 5, api.Grant+1)
	check(t, "Delegate of more than all", s, e, stake.New(), api.ErrFunds)
}

// P4.3: each error, and those that come ahead of others.
func TestDelegateErrors(t *testing.T) {
	for _, x := range []struct {
		s       api.Stake
		d, v, n int
		want    api.Errno
	}{
		{mixed(), 0, 2, 1, api.ErrDead}, {mixed(), 0, 2, 0, api.ErrDead}, {mixed(), 0, 2, math.MinInt, api.ErrDead}, {mixed(), 0, 2, api.MaxAmount, api.ErrDead},
		{mixed(), 0, 0, 0, api.ErrRange}, {mixed(), 0, 0, -1, api.ErrRange}, {mixed(), 0, 3, math.MinInt, api.ErrRange},
		{mixed(), 0, 0, api.MaxAmount + 1, api.ErrRange}, {mixed(), 0, 1, math.MaxInt, api.ErrRange}, {mixed(), 0, 3, math.MaxInt, api.ErrRange},
		{mixed(), 0, 3, api.MaxAmount, api.ErrFunds}, {mixed(), 0, 3, 99001, api.ErrFunds}, {mixed(), 0, 0, 99001, api.ErrFunds},
		// No tokens behind its shares: ahead of the bank, behind the range.
		{alone(0, 7), 0, 3, 1, api.ErrSmall}, {alone(0, 7), 0, 3, api.MaxAmount, api.ErrSmall}, {alone(0, 7), 0, 3, 0, api.ErrRange},
		{alone(0, api.MaxAmount), 0, 3, 1, api.ErrSmall},
		// Too many shares: by MulDiv, by one, and ahead of the bank.
		{alone(1, api.MaxAmount), 0, 3, 2, api.ErrFull}, {alone(1, api.MaxAmount), 0, 3, 1, api.ErrFull}, {alone(1, api.MaxAmount), 1, 3, 1, api.ErrFull},
		{alone(2, api.MaxAmount-1), 0, 3, 1, api.ErrFull}, {alone(1, 1<<49+1), 0, 3, 1, api.ErrFull},
		{mixed(), 0, 0, api.MaxAmount, api.ErrFull}, {mixed(), 0, 1, api.MaxAmount, api.ErrFull},
		{mixed(), 0, 0, api.MaxAmount - 999, api.ErrFull}, {mixed(), 0, 0, api.MaxAmount - 1000, api.ErrFunds},
		// No share comes of it: also ahead of the bank.
		{mixed(), 2, 5, 1, api.ErrSmall}, {mixed(), 2, 5, 2, api.ErrSmall}, {alone(all, 1), 1, 3, 1, api.ErrSmall}, {alone(all, 1), 1, 3, all - 1, api.ErrSmall},
		{alone(all, 1), 1, 3, all, api.ErrFunds},
		{alone(300, 3), 1, 3, 100, api.ErrFunds}, {alone(300, 3), 1, 3, 99, api.ErrSmall},
	} {
		s, e := stake.Delegate(x.s, x.d, x.v, x.n)
		check(t, "Delegate", s, e, x.s, x.want)
	}
}

// P4.3: shares may come to just MaxAmount.
func TestDelegateUpToMaxAmount(t *testing.T) {
	for _, x := range []struct{ tokens, shares, n, more int }{
		{1, 1 << 49, 1, 1 << 49}, {3, 3 << 48, 1, 1 << 48}, {all / 2, 1 << 49, all / 2, 1 << 49},
	} {
		want := alone(x.tokens, x.shares)
		want.Bank.Free[0] -= x.n
		want.Bank.Bonded += x.n
		want.Validators[3].Tokens += x.n
		want.Validators[3].Shares = api.MaxAmount
		want.Shares[0][3] = x.more
		s, e := stake.Delegate(alone(x.tokens, x.shares), 0, 3, x.n)
		check(t, "Delegate up to MaxAmount", s, e, want, api.OK)
	}
}

// P4.4: what shares are worth is rounded down, and stands last, with what was handed in and what was not.
func TestUndelegate(t *testing.T) {
	for _, x := range []struct{ d, v, shares, worth int }{
		{0, 0, 1, 1}, {0, 0, 700, 700}, {1, 0, 300, 300},
		{1, 1, 2, 1}, {1, 1, 20, 19}, {1, 1, 21, 19}, {1, 1, 200, 190}, {2, 1, 700, 665}, {2, 1, 699, 664},
		{1, 4, 250, 250}, {3, 5, 1, 3}, {3, 5, 10, 30},
	} {
		w := api.Wait{Number: 55, D: 77, V: -1, Amount: -9, Height: 6, Due: 31, Holds: [api.Consumers]int{6, -2}}
		want := with(func(s *api.Stake) {
			s.Bank.Bonded -= x.worth
			s.Bank.Waiting += x.worth
			s.Validators[x.v].Tokens -= x.worth
			s.Validators[x.v].Shares -= x.shares
			s.Shares[x.d][x.v] -= x.shares
			s.Waits = append(s.Waits, api.Wait{Number: 9, D: x.d, V: x.v, Amount: x.worth, Height: 6, Due: 31, Holds: [api.Consumers]int{6, -2}})
			s.Next = 10
		})
		s, e := stake.Undelegate(mixed(), x.d, x.v, x.shares, w)
		check(t, "Undelegate", s, e, want, api.OK)
	}
}

// P4.4: the edges that may be: the last room for a wait, the last number, heights and times without bound.
func TestUndelegateAtTheEdges(t *testing.T) {
	s, e := stake.Undelegate(waiting(api.MaxWaits-1), 0, 0, 5, api.Wait{})
	if e != api.OK || len(s.Waits) != api.MaxWaits || !stake.Good(s) || s.Waits[api.MaxWaits-1] != (api.Wait{Number: api.MaxWaits, Amount: 5}) {
		t.Errorf("the last room: %v, %d", s.Waits, e)
	}
	near := with(func(s *api.Stake) { s.Next = api.MaxAmount - 1 })
	s, e = stake.Undelegate(near, 0, 0, 5, api.Wait{Height: math.MaxInt, Due: math.MaxInt})
	if e != api.OK || s.Next != api.MaxAmount || s.Waits[4].Number != api.MaxAmount-1 || s.Waits[4].Height != math.MaxInt || s.Waits[4].Due != math.MaxInt || !stake.Good(s) {
		t.Errorf("the last number: %v, %d", s, e)
	}
	after, e := stake.Undelegate(s, 0, 0, 5, api.Wait{})
	check(t, "behind the last number", after, e, s, api.ErrFull)
	s, e = stake.Undelegate(alone(all, api.MaxAmount), 2, 3, api.MaxAmount, api.Wait{})
	if e != api.OK || s.Bank.Waiting != all || s.Validators[3] != (api.Validator{}) || s.Shares[2][3] != 0 || s.Waits[0].Amount != all || !stake.Good(s) {
		t.Errorf("all shares: %v, %d", s, e)
	}
}

// P4.4: each error, and those that come ahead of others.
func TestUndelegateErrors(t *testing.T) {
	last := func(s api.Stake) api.Stake {
		s.Next = api.MaxAmount
		return s
	}
	full := waiting(api.MaxWaits)
	for _, x := range []struct {
		s            api.Stake
		d, v, shares int
		w            api.Wait
		want         api.Errno
	}{
		{mixed(), 0, 0, 0, api.Wait{}, api.ErrRange}, {mixed(), 0, 0, -1, api.Wait{}, api.ErrRange}, {mixed(), 0, 0, math.MinInt, api.Wait{}, api.ErrRange},
		{mixed(), 0, 0, api.MaxAmount + 1, api.Wait{}, api.ErrRange}, {mixed(), 0, 0, math.MaxInt, api.Wait{}, api.ErrRange},
		{mixed(), 0, 0, 1, api.Wait{Height: -1}, api.ErrRange}, {mixed(), 0, 0, 1, api.Wait{Due: -1}, api.ErrRange},
		{mixed(), 0, 0, 1, api.Wait{Height: math.MinInt, Due: 5}, api.ErrRange}, {mixed(), 0, 0, 1, api.Wait{Height: 5, Due: math.MinInt}, api.ErrRange},
		{mixed(), 0, 0, 701, api.Wait{Height: -1}, api.ErrRange}, {full, 0, 0, 0, api.Wait{}, api.ErrRange}, {full, 0, 0, 1, api.Wait{Due: -1}, api.ErrRange},
		{mixed(), 0, 0, 701, api.Wait{}, api.ErrFunds}, {mixed(), 1, 0, 301, api.Wait{}, api.ErrFunds}, {mixed(), 2, 0, 1, api.Wait{}, api.ErrFunds},
		{mixed(), 0, 3, 1, api.Wait{}, api.ErrFunds}, {mixed(), 0, 0, api.MaxAmount, api.Wait{}, api.ErrFunds},
		{full, 0, 0, 1001, api.Wait{}, api.ErrFunds}, {full, 1, 0, 1, api.Wait{}, api.ErrFunds}, {last(mixed()), 2, 0, 1, api.Wait{}, api.ErrFunds},
		{full, 0, 0, 1, api.Wait{}, api.ErrFull}, {last(mixed()), 0, 0, 1, api.Wait{}, api.ErrFull}, {last(full), 0, 0, 1, api.Wait{}, api.ErrFull},
		{last(mixed()), 1, 1, 1, api.Wait{}, api.ErrFull}, {last(mixed()), 3, 2, 40, api.Wait{}, api.ErrFull},
		{mixed(), 1, 1, 1, api.Wait{}, api.ErrSmall}, {mixed(), 3, 2, 1, api.Wait{}, api.ErrSmall}, {mixed(), 3, 2, 40, api.Wait{}, api.ErrSmall},
		{alone(1, api.MaxAmount), 2, 3, api.MaxAmount - 1, api.Wait{}, api.ErrSmall}, {alone(0, api.MaxAmount), 2, 3, api.MaxAmount, api.Wait{}, api.ErrSmall},
	} {
		s, e := stake.Undelegate(x.s, x.d, x.v, x.shares, x.w)
		check(t, "Undelegate", s, e, x.s, x.want)
	}
}

// P4.5
func TestRelease(t *testing.T) {
	holds := func(c int, hold int, i int) func(s *api.Stake) {
		return func(s *api.Stake) { s.Waits[i].Holds[c] = hold }
	}
	one := with(holds(0, 0, 0))
	both := one
	both.Waits = slices.Clone(one.Waits)
	both.Waits[1].Holds[0] = 0
	five := with(holds(1, 0, 1))
	six := five
	six.Waits = slices.Clone(five.Waits)
	six.Waits[3].Holds[1] = 0
	for _, x := range []struct {
		c, height int
		want      api.Stake
	}{
		{0, math.MinInt, mixed()}, {0, -1, mixed()}, {0, 0, mixed()}, {0, 2, mixed()}, {0, 3, one}, {0, 4, both}, {0, 5, both}, {0, math.MaxInt, both},
		{1, 0, mixed()}, {1, 4, mixed()}, {1, 5, five}, {1, 6, six}, {1, api.MaxTime, six},
		{-1, 5, mixed()}, {api.Consumers, 5, mixed()}, {math.MinInt, 5, mixed()}, {math.MaxInt, 5, mixed()}, {1 << 32, 5, mixed()},
	} {
		if s := stake.Release(mixed(), x.c, x.height); !same(s, x.want) {
			t.Errorf("Release(%d, %d): %v; want %v", x.c, x.height, s, x.want)
		}
	}
}

// P4.5: no good stake is asked for, and a hold below 0 is one.
func TestReleaseOfAnyStake(t *testing.T) {
	bad := with(func(s *api.Stake) {
		s.Next, s.Bank.Free[0] = 0, -1
		s.Waits[2].Holds = [api.Consumers]int{-3, -9}
	})
	want := bad
	want.Waits = slices.Clone(bad.Waits)
	want.Waits[2].Holds[1] = 0
	if s := stake.Release(bad, 1, -9); !same(s, want) {
		t.Errorf("%v; want %v", s, want)
	}
	if s := stake.Release(bad, 1, -10); !same(s, bad) {
		t.Errorf("%v; want %v", s, bad)
	}
	if s := stake.Release(api.Stake{}, 0, 5); !same(s, api.Stake{}) {
		t.Errorf("%v; want nothing", s)
	}
	many := waiting(3 * api.MaxWaits)
	for i := range many.Waits {
		many.Waits[i].Holds[0] = i
	}
	for i, w := range stake.Release(many, 0, 99).Waits {
		if w.Holds[0] != 0 && i < 100 || w.Holds[0] != i && i >= 100 {
			t.Errorf("wait %d of many: %v", i, w.Holds)
		}
	}
}

func checkPay(t *testing.T, s api.Stake, time int, want api.Stake, numbers ...int) {
	t.Helper()
	after, paid, e := stake.Pay(s, time)
	check(t, "Pay", after, e, want, api.OK)
	if !slices.Equal(paid, numbers) {
		t.Errorf("Pay(%d): %v; want %v", time, paid, numbers)
	}
}

// P4.6
func TestPayWhatIsDueAndNotHeld(t *testing.T) {
	for _, time := range []int{math.MinInt, -1, 0, 20, 24} {
		checkPay(t, mixed(), time, mixed())
	}
	want := with(func(s *api.Stake) {
		s.Bank.Waiting, s.Bank.Free[2] = 220, 99150
		s.Waits = slices.Delete(s.Waits, 2, 3)
	})
	for _, time := range []int{25, 26, api.MaxTime, math.MaxInt} {
		checkPay(t, mixed(), time, want, 4)
	}
}

// P4.6: a hold of either consumer holds, whatever height it is of; and what is paid goes to whom it belongs.
func TestPayWhatIsHeldNoMore(t *testing.T) {
	free := stake.Release(mixed(), 0, 4)
	want := with(func(s *api.Stake) {
		s.Bank.Waiting, s.Bank.Free[1], s.Bank.Free[2] = 125, 99595, 99150
		s.Waits = []api.Wait{free.Waits[1], free.Waits[3]}
	})
	checkPay(t, free, 26, want, 1, 4)
	none := stake.Release(free, 1, 6)
	want = with(func(s *api.Stake) {
		s.Bank.Waiting, s.Bank.Free = 0, [api.Delegators]int{99120, 99595, 99150, 99905}
		s.Waits = nil
	})
	checkPay(t, none, 26, want, 1, 3, 4, 7)
	below := with(func(s *api.Stake) { s.Waits[2].Holds[1] = -1 })
	checkPay(t, below, 26, below)
}

// P4.6: the order of numbers is that of the waits, not that of their times; an amount of 0 is paid, too.
func TestPayAtTheEdges(t *testing.T) {
	s := with(func(s *api.Stake) {
		s.Waits[2].Amount, s.Waits[1].Amount = 0, 180
		s.Waits[0].Holds, s.Waits[0].Due = [api.Consumers]int{}, math.MaxInt
		s.Waits[3].Holds, s.Waits[3].Due = [api.Consumers]int{}, 0
	})
	want := s
	want.Bank.Waiting, want.Bank.Free[3] = 275, 99905
	want.Waits = []api.Wait{s.Waits[0], s.Waits[1]}
	checkPay(t, s, 25, want, 4, 7)
	checkPay(t, s, math.MaxInt-1, want, 4, 7)
	want.Bank.Waiting, want.Bank.Free[1] = 180, 99595
	want.Waits = []api.Wait{s.Waits[1]}
	checkPay(t, s, math.MaxInt, want, 1, 4, 7)
	want = s
	want.Bank.Waiting, want.Bank.Free[3] = 275, 99905
	want.Waits = s.Waits[:3]
	checkPay(t, s, 0, want, 7)
	many, none := waiting(api.MaxWaits), waiting(0)
	none.Next = many.Next
	numbers := make([]int, api.MaxWaits)
	for i := range numbers {
		numbers[i] = i + 1
	}
	checkPay(t, many, 0, none, numbers...)
	checkPay(t, stake.New(), math.MaxInt, stake.New())
}

// P4.7: tokens, and waits of that validator from that height on; each is rounded down by itself.
func TestSlash(t *testing.T) {
	for _, x := range []struct{ v, height, f, tokens, first, third int }{
		{1, 0, 50, 42, 4, 3}, {1, 3, 50, 42, 4, 3}, {1, 4, 50, 42, 0, 3}, {1, 5, 50, 42, 0, 3}, {1, 6, 50, 42, 0, 0},
		{1, math.MinInt, 50, 42, 4, 3}, {1, math.MaxInt, 50, 42, 0, 0},
		{1, 0, 0, 0, 0, 0}, {1, 0, 1, 0, 0, 0}, {1, 0, 999, 854, 94, 59}, {1, 0, 1000, 855, 95, 60}, {1, 4, 1000, 855, 0, 60},
		{3, 0, 1000, 0, 0, 0}, {4, 0, 50, 12, 0, 0}, {5, 0, 50, 1, 0, 0}, {5, 0, 33, 0, 0, 0}, {5, 0, 34, 1, 0, 0},
	} {
		burnt := x.tokens + x.first + x.third
		want := with(func(s *api.Stake) {
			s.Bank.Bonded -= x.tokens
			s.Bank.Waiting -= x.first + x.third
			s.Bank.Burnt += burnt
			s.Validators[x.v].Tokens -= x.tokens
			s.Validators[x.v].Lost += burnt
			s.Waits[0].Amount -= x.first
			s.Waits[2].Amount -= x.third
		})
		s, n, e := stake.Slash(mixed(), x.v, x.height, x.f)
		check(t, "Slash", s, e, want, api.OK)
		if n != burnt {
			t.Errorf("Slash(%d, %d, %d): %d; want %d", x.v, x.height, x.f, n, burnt)
		}
	}
}

// P4.7: who is dead is slashed, too; held or not, due or not, is no matter.
func TestSlashOfWhoIsDead(t *testing.T) {
	want := with(func(s *api.Stake) {
		s.Bank.Waiting, s.Bank.Burnt = 278, 97
		s.Validators[2].Lost = 47
		s.Waits[3].Amount = 3
	})
	s, n, e := stake.Slash(mixed(), 2, 6, 400)
	check(t, "Slash", s, e, want, api.OK)
	if n != 2 {
		t.Errorf("Slash: %d; want 2", n)
	}
	want.Bank.Bonded, want.Bank.Burnt = 1885, 347
	want.Validators[4].Tokens, want.Validators[4].Lost = 0, 250
	s, n, e = stake.Slash(s, 4, 0, 1000)
	check(t, "Slash of all", s, e, want, api.OK)
	if n != 250 || want.Validators[4].Shares != 250 {
		t.Errorf("Slash of all: %d; want 250", n)
	}
}

// P4.7: a wrong f is one, also where there is nothing to burn.
func TestSlashByAWrongPart(t *testing.T) {
	for _, f := range []int{math.MinInt, -50, -1, 1001, 1 << 32, math.MaxInt} {
		for v := range api.Validators {
			s, n, e := stake.Slash(mixed(), v, 0, f)
			check(t, "Slash", s, e, mixed(), api.ErrRange)
			if n != 0 {
				t.Errorf("Slash: %d with an error", n)
			}
		}
	}
}

// P4.7: all that there is can be burnt, over all waits that there may be.
func TestSlashOfAll(t *testing.T) {
	many := waiting(api.MaxWaits)
	want := waiting(api.MaxWaits)
	want.Bank.Bonded, want.Bank.Waiting, want.Bank.Burnt = 0, 0, 1000+api.MaxWaits
	want.Validators[0] = api.Validator{Shares: 1000, Lost: 1000 + api.MaxWaits}
	for i := range want.Waits {
		want.Waits[i].Amount = 0
	}
	s, n, e := stake.Slash(many, 0, 0, 1000)
	check(t, "Slash", s, e, want, api.OK)
	if n != 1000+api.MaxWaits {
		t.Errorf("Slash: %d", n)
	}
	s, n, e = stake.Slash(alone(all, api.MaxAmount), 3, 0, 1000)
	if e != api.OK || n != all || s.Bank != (api.Bank{Burnt: all}) || s.Validators[3].Lost != all || !stake.Good(s) {
		t.Errorf("Slash: %v, %d, %d", s, n, e)
	}
}

// P4.8: 0 is neither jailed nor dead, 4 is jailed, 2 is dead.
func TestJailUnjailBury(t *testing.T) {
	for _, x := range []struct {
		v                  int
		jail, unjail, bury api.Errno
	}{
		{0, api.OK, api.ErrNone, api.OK},
		{3, api.OK, api.ErrNone, api.OK},
		{4, api.ErrJailed, api.OK, api.OK},
		{2, api.ErrJailed, api.ErrDead, api.ErrDead},
	} {
		jailed := with(func(s *api.Stake) { s.Validators[x.v].Jailed = true })
		s, e := stake.Jail(mixed(), x.v)
		check(t, "Jail", s, e, jailed, x.jail)
		freed := mixed()
		if x.unjail == api.OK {
			freed.Validators[x.v].Jailed = false
		}
		s, e = stake.Unjail(mixed(), x.v)
		check(t, "Unjail", s, e, freed, x.unjail)
		buried := with(func(s *api.Stake) { s.Validators[x.v].Jailed, s.Validators[x.v].Dead = true, true })
		s, e = stake.Bury(mixed(), x.v)
		check(t, "Bury", s, e, buried, x.bury)
	}
}

// P4.8: jailed again and again; once buried, never back.
func TestWhoIsBuriedNeverComesBack(t *testing.T) {
	for v := range api.Validators {
		s := stake.New()
		for range 2 {
			jailed, e := stake.Jail(s, v)
			if e != api.OK {
				t.Errorf("Jail: %d", e)
			}
			after, e := stake.Unjail(jailed, v)
			check(t, "Unjail", after, e, s, api.OK)
		}
		dead, _ := stake.Bury(s, v)
		after, e := stake.Unjail(dead, v)
		check(t, "Unjail", after, e, dead, api.ErrDead)
		after, e = stake.Jail(dead, v)
		check(t, "Jail", after, e, dead, api.ErrJailed)
		after, e = stake.Bury(dead, v)
		check(t, "Bury", after, e, dead, api.ErrDead)
		after, e = stake.Delegate(dead, 0, v, 100)
		check(t, "Delegate", after, e, dead, api.ErrDead)
	}
}

// Lists that are handed in are not changed, nor is their spare room, and an answer holds against later calls.
func TestListsAreNotChanged(t *testing.T) {
	for _, c := range append(calls(), call{"Release", func(t *testing.T, s api.Stake, d, v, n int) (api.Stake, api.Errno) {
		return stake.Release(s, d, n), api.OK
	}}) {
		for _, x := range [][3]int{{0, 0, 50}, {1, 1, 200}, {3, 2, 1000}, {0, 4, 5}, {1, 4, 26}} {
			s, room := roomy(mixed())
			before := slices.Clone(room)
			c.do(t, s, x[0], x[1], x[2])
			if !slices.Equal(room, before) {
				t.Errorf("%s changed what it was handed: %v", c.name, room)
			}
		}
	}
	s, _ := roomy(mixed())
	first, _ := stake.Undelegate(s, 0, 0, 1, api.Wait{})
	second, _ := stake.Undelegate(s, 1, 1, 20, api.Wait{})
	third, _ := stake.Undelegate(first, 1, 0, 2, api.Wait{})
	if first.Waits[4].Amount != 1 || second.Waits[4].Amount != 19 || third.Waits[4].Amount != 1 || third.Waits[5].Amount != 2 {
		t.Errorf("%v, %v, %v", first.Waits, second.Waits, third.Waits)
	}
}

// Whatever is done to a good stake, it is a good one, and with an error it is as it was.
func FuzzDeeds(f *testing.F) {
	f.Add([]byte{0, 0, 0, 70, 0, 1, 0, 30, 1, 0, 0, 20, 2, 0, 0, 5, 4, 0, 0, 9, 3, 0, 0, 9})
	f.Add([]byte{0, 2, 3, 255, 4, 0, 3, 255, 0, 2, 3, 1, 1, 2, 3, 9, 5, 0, 3, 0, 6, 0, 3, 0, 7, 0, 3, 0})
	f.Fuzz(func(t *testing.T, deeds []byte) {
		s := mixed()
		for ; len(deeds) >= 4; deeds = deeds[4:] {
			d, v, n := int(deeds[1])-1, int(deeds[2])%8-1, int(deeds[3])
			after, e := deed(int(deeds[0]), s, d, v, n)
			if !stake.Good(after) || e != api.OK && !same(after, s) {
				t.Fatalf("%v: %v becomes %v, %d", deeds[:4], s, after, e)
			}
			s = after
		}
	})
}

func deed(kind int, s api.Stake, d, v, n int) (api.Stake, api.Errno) {
	switch kind % 8 {
	case 0:
		return stake.Delegate(s, d, v, n*n)
	case 1:
		return stake.Undelegate(s, d, v, n*n, api.Wait{Height: n, Due: n, Holds: [api.Consumers]int{n % 3, n % 2}})
	case 2:
		return stake.Release(s, d, n), api.OK
	case 3:
		after, _, e := stake.Pay(s, n)
		return after, e
	case 4:
		after, _, e := stake.Slash(s, v, d, 4*n)
		return after, e
	case 5:
		return stake.Jail(s, v)
	case 6:
		return stake.Unjail(s, v)
	}
	return stake.Bury(s, v)
}
