package bank_test

import (
	"math"
	"testing"

	"suzerain/api"
	"suzerain/bank"
)

// all is how many tokens there are: four grants of 100000.
const all = 400000

// mixed is a bank with something in every place, no two alike.
func mixed() api.Bank {
	return api.Bank{Free: [api.Delegators]int{99000, 100100, 97000, 100900}, Bonded: 1700, Waiting: 800, Burnt: 500}
}

// fields are all numbers of a bank.
func fields(b *api.Bank) []*int {
	return []*int{&b.Free[0], &b.Free[1], &b.Free[2], &b.Free[3], &b.Bonded, &b.Waiting, &b.Burnt}
}

// with is the mixed bank with another number in one of its fields.
func with(field, n int) api.Bank {
	b := mixed()
	*fields(&b)[field] = n
	return b
}

// goodBanks are ordinary banks, and those where all tokens lie in one place.
func goodBanks() []api.Bank {
	l := []api.Bank{bank.New(), mixed()}
	for i := range 7 {
		var b api.Bank
		*fields(&b)[i] = all
		l = append(l, b)
	}
	return l
}

// badBanks are banks with wrong sums, and with right ones that hide a wrong number.
func badBanks() []api.Bank {
	l := []api.Bank{{}}
	for i := range 7 {
		b := mixed()
		*fields(&b)[i]++
		l = append(l, b)
		*fields(&b)[i] -= 2
		l = append(l, b)
		l = append(l, with(i, -1), with(i, all+1), with(i, math.MinInt), with(i, math.MaxInt))
		l = append(l, lessThanNothing(i), beyondRound(i))
	}
	return l
}

// lessThanNothing has -1 in a field, and nowhere too much; it comes to all tokens.
func lessThanNothing(field int) api.Bank {
	var b api.Bank
	l := fields(&b)
	*l[field] = -1
	*l[(field+1)%7] = all
	*l[(field+2)%7] = 1
	return b
}

// beyondRound has nowhere less than nothing, and too much in two places; it goes round to all tokens.
func beyondRound(field int) api.Bank {
	var b api.Bank
	l := fields(&b)
	*l[field] = math.MaxInt
	*l[(field+1)%7] = math.MaxInt
	*l[(field+2)%7] = all
	*l[(field+3)%7] = 2
	return b
}

func check(t *testing.T, what string, b api.Bank, e api.Errno, want api.Bank, code api.Errno) {
	t.Helper()
	if b != want || e != code {
		t.Errorf("%s: %v, %d; want %v, %d", what, b, e, want, code)
	}
}

// P3.1
func TestNewHasAGrantFreeForEach(t *testing.T) {
	want := api.Bank{Free: [api.Delegators]int{100000, 100000, 100000, 100000}}
	if b := bank.New(); b != want {
		t.Errorf("%v; want %v", b, want)
	}
}

// P3.1
func TestSumIsOfAllPlaces(t *testing.T) {
	for _, x := range []struct {
		b    api.Bank
		want int
	}{
		{api.Bank{}, 0},
		{bank.New(), all},
		{mixed(), all},
		{api.Bank{Free: [api.Delegators]int{1, 20, 300, 4000}, Bonded: 50000, Waiting: 600000, Burnt: 7000000}, 7654321},
		{api.Bank{Free: [api.Delegators]int{-1, -20, 300}, Bonded: -50000}, -49721},
	} {
		if n := bank.Sum(x.b); n != x.want {
			t.Errorf("%v: %d; want %d", x.b, n, x.want)
		}
	}
}

// P3.1
func TestSumGoesRound(t *testing.T) {
	for i := range 7 {
		var b api.Bank
		l := fields(&b)
		*l[i] = math.MaxInt
		*l[(i+1)%7] = 1
		if n := bank.Sum(b); n != math.MinInt {
			t.Errorf("%v: %d; want %d", b, n, math.MinInt)
		}
		*l[i] = math.MinInt
		*l[(i+1)%7] = -1
		if n := bank.Sum(b); n != math.MaxInt {
			t.Errorf("%v: %d; want %d", b, n, math.MaxInt)
		}
		if n := bank.Sum(beyondRound(i)); n != all {
			t.Errorf("%v: %d; want %d", beyondRound(i), n, all)
		}
	}
}

// P3.1
func TestGood(t *testing.T) {
	for _, b := range goodBanks() {
		if !bank.Good(b) {
			t.Errorf("%v is good", b)
		}
	}
	for _, b := range badBanks() {
		if bank.Good(b) {
			t.Errorf("%v is not good", b)
		}
	}
}

// P3.2
func TestBondMovesFromFreeToBonded(t *testing.T) {
	for d := range api.Delegators {
		want := mixed()
		want.Free[d] -= 300
		want.Bonded = 2000
		b, e := bank.Bond(mixed(), d, 300)
		check(t, "Bond", b, e, want, api.OK)
	}
	b, e := bank.Bond(mixed(), 2, 97000)
	check(t, "Bond of all that is free", b, e, api.Bank{Free: [api.Delegators]int{99000, 100100, 0, 100900}, Bonded: 98700, Waiting: 800, Burnt: 500}, api.OK)
	b, e = bank.Bond(mixed(), 2, 97001)
	check(t, "Bond of one more", b, e, mixed(), api.ErrFunds)
}

// P3.2
func TestUnbondMovesFromBondedToWaiting(t *testing.T) {
	want := mixed()
	want.Bonded, want.Waiting = 1400, 1100
	b, e := bank.Unbond(mixed(), 300)
	check(t, "Unbond", b, e, want, api.OK)
	want.Bonded, want.Waiting = 0, 2500
	b, e = bank.Unbond(mixed(), 1700)
	check(t, "Unbond of all that is bonded", b, e, want, api.OK)
	b, e = bank.Unbond(mixed(), 1701)
	check(t, "Unbond of one more", b, e, mixed(), api.ErrFunds)
}

// P3.2
func TestPayMovesFromWaitingToFree(t *testing.T) {
	for d := range api.Delegators {
		want := mixed()
		want.Waiting = 500
		want.Free[d] += 300
		b, e := bank.Pay(mixed(), d, 300)
		check(t, "Pay", b, e, want, api.OK)
		want.Waiting = 0
		want.Free[d] += 500
		b, e = bank.Pay(mixed(), d, 800)
		check(t, "Pay of all that waits", b, e, want, api.OK)
		b, e = bank.Pay(mixed(), d, 801)
		check(t, "Pay of one more", b, e, mixed(), api.ErrFunds)
	}
}

// P3.2
func TestBurnMovesFromBondedAndWaitingToBurnt(t *testing.T) {
	for _, x := range [][5]int{
		{0, 0, 1700, 800, 500},
		{100, 20, 1600, 780, 620},
		{100, 0, 1600, 800, 600},
		{0, 20, 1700, 780, 520},
		{1700, 0, 0, 800, 2200},
		{0, 800, 1700, 0, 1300},
		{1700, 800, 0, 0, 3000},
	} {
		want := mixed()
		want.Bonded, want.Waiting, want.Burnt = x[2], x[3], x[4]
		b, e := bank.Burn(mixed(), x[0], x[1])
		check(t, "Burn", b, e, want, api.OK)
	}
}

// P3.2: what is burnt of the bonded comes first, and nothing is burnt by halves.
func TestBurnSaysTheFirstError(t *testing.T) {
	for _, x := range []struct {
		ofBonded, ofWaiting int
		want                api.Errno
	}{
		{1701, 0, api.ErrFunds}, {0, 801, api.ErrFunds}, {1700, 801, api.ErrFunds}, {1701, 801, api.ErrFunds},
		{-1, 0, api.ErrRange}, {0, -1, api.ErrRange}, {1700, -1, api.ErrRange},
		{api.MaxAmount + 1, 0, api.ErrRange}, {0, api.MaxAmount + 1, api.ErrRange}, {100, api.MaxAmount + 1, api.ErrRange},
		{api.MaxAmount, 0, api.ErrFunds}, {0, api.MaxAmount, api.ErrFunds},
		{1701, -1, api.ErrFunds}, {-1, 801, api.ErrRange},
		{1701, api.MaxAmount + 1, api.ErrFunds}, {api.MaxAmount + 1, 801, api.ErrRange},
		{-1, 1, api.ErrRange}, {1, -1, api.ErrRange}, {math.MinInt, math.MaxInt, api.ErrRange},
	} {
		b, e := bank.Burn(mixed(), x.ofBonded, x.ofWaiting)
		check(t, "Burn", b, e, mixed(), x.want)
	}
}

// P3.2: nothing can be moved everywhere, also from where nothing is.
func TestToMoveNothing(t *testing.T) {
	for _, b := range goodBanks() {
		for d := range api.Delegators {
			after, e := bank.Bond(b, d, 0)
			check(t, "Bond", after, e, b, api.OK)
			after, e = bank.Pay(b, d, 0)
			check(t, "Pay", after, e, b, api.OK)
		}
		after, e := bank.Unbond(b, 0)
		check(t, "Unbond", after, e, b, api.OK)
		after, e = bank.Burn(b, 0, 0)
		check(t, "Burn", after, e, b, api.OK)
	}
}

// P3.2: all tokens that there are go through every place.
func TestToMoveAllThereIs(t *testing.T) {
	b := api.Bank{Free: [api.Delegators]int{0, all, 0, 0}}
	b, e := bank.Bond(b, 1, all)
	check(t, "Bond", b, e, api.Bank{Bonded: all}, api.OK)
	b, e = bank.Unbond(b, all)
	check(t, "Unbond", b, e, api.Bank{Waiting: all}, api.OK)
	b, e = bank.Pay(b, 3, all)
	check(t, "Pay", b, e, api.Bank{Free: [api.Delegators]int{0, 0, 0, all}}, api.OK)
	b, e = bank.Burn(api.Bank{Waiting: all}, 0, all)
	check(t, "Burn", b, e, api.Bank{Burnt: all}, api.OK)
}

// P3.2: a number that is no amount comes ahead of funds; an amount, however great, does not.
func TestToMoveNoAmount(t *testing.T) {
	for _, x := range []struct {
		n    int
		want api.Errno
	}{
		{math.MinInt, api.ErrRange}, {-api.MaxAmount, api.ErrRange}, {-1, api.ErrRange},
		{all + 1, api.ErrFunds}, {1 << 32, api.ErrFunds}, {api.MaxAmount, api.ErrFunds},
		{api.MaxAmount + 1, api.ErrRange}, {math.MaxInt, api.ErrRange},
	} {
		for _, b := range goodBanks() {
			after, e := bank.Bond(b, 0, x.n)
			check(t, "Bond", after, e, b, x.want)
			after, e = bank.Unbond(b, x.n)
			check(t, "Unbond", after, e, b, x.want)
			after, e = bank.Pay(b, 3, x.n)
			check(t, "Pay", after, e, b, x.want)
			after, e = bank.Burn(b, x.n, 0)
			check(t, "Burn of the bonded", after, e, b, x.want)
			after, e = bank.Burn(b, 0, x.n)
			check(t, "Burn of what waits", after, e, b, x.want)
		}
	}
}

// P3.2: a bank that is not good comes ahead of funds, and stays as it was, also where nothing is moved.
func TestToMoveInABadBank(t *testing.T) {
	for _, b := range badBanks() {
		for _, n := range []int{-1, 0, 1, all + 1, api.MaxAmount, math.MaxInt} {
			after, e := bank.Bond(b, 1, n)
			check(t, "Bond", after, e, b, api.ErrRange)
			after, e = bank.Unbond(b, n)
			check(t, "Unbond", after, e, b, api.ErrRange)
			after, e = bank.Pay(b, 2, n)
			check(t, "Pay", after, e, b, api.ErrRange)
			after, e = bank.Burn(b, n, 0)
			check(t, "Burn of the bonded", after, e, b, api.ErrRange)
			after, e = bank.Burn(b, 0, n)
			check(t, "Burn of what waits", after, e, b, api.ErrRange)
		}
	}
}

// P3.2: that there is no such delegator comes ahead of all else.
func TestNoSuchDelegator(t *testing.T) {
	for _, d := range []int{math.MinInt, -4, -1, api.Delegators, api.Delegators + 1, 1 << 32, math.MaxInt} {
		for _, b := range append(goodBanks(), badBanks()...) {
			for _, n := range []int{-1, 0, 1, all + 1, math.MaxInt} {
				after, e := bank.Bond(b, d, n)
				check(t, "Bond", after, e, b, api.ErrNone)
				after, e = bank.Pay(b, d, n)
				check(t, "Pay", after, e, b, api.ErrNone)
			}
		}
	}
}

// P3.1, P3.2: whatever is done to a good bank, it is a good one.
func FuzzMoves(f *testing.F) {
	f.Add(0, 300, 100, 20, 10)
	f.Add(3, all, all, 0, all)
	f.Add(-1, -1, api.MaxAmount, math.MaxInt, math.MinInt)
	f.Fuzz(func(t *testing.T, d, bond, unbond, ofBonded, ofWaiting int) {
		b, _ := bank.Bond(bank.New(), d, bond)
		b, _ = bank.Unbond(b, unbond)
		b, _ = bank.Burn(b, ofBonded, ofWaiting)
		b, _ = bank.Pay(b, d, b.Waiting)
		if !bank.Good(b) || bank.Sum(b) != all {
			t.Errorf("%v is not good", b)
		}
	})
}
