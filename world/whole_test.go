package world_test

import (
	"slices"
	"testing"

	"suzerain/api"
)

// Example 1: a consumer begins with the set of the provider's block.
func TestExampleSet(t *testing.T) {
	w := made(t, delegate(0, 0, 700), provide(), begin(0))
	want := []api.Power{{V: 0, N: 7}}
	if p, c := w.Provider(), w.Consumer(0); !slices.Equal(p.Set, want) || !slices.Equal(c.Set, want) {
		t.Errorf("%v, %v", p.Set, c.Set)
	}
}

// unbonded are deeds of example 2: consumer 0 is told that 300 of 700 were unbonded at 0.
func unbonded() []api.Deed {
	return []api.Deed{delegate(0, 0, 700), provide(), begin(0), undelegate(0, 0, 300), provide()}
}

// Example 2: an unbonding is not paid until the consumer has said that the change is old enough.
func TestExampleHeld(t *testing.T) {
	w := made(t, unbonded()...)
	if p := w.Provider(); !slices.Equal(p.Set, []api.Power{{V: 0, N: 4}}) || len(p.Links[0].Out.Said) != 1 {
		t.Errorf("%+v", p)
	}
	doAll(t, w, tick(20))
	if n := doAll(t, w, provide()); n != 0 {
		t.Errorf("paid, but the consumer was not even told: %d", n)
	}
	doAll(t, w, heads(0), deliver(0), consume(0), tick(14), consume(0))
	if c := w.Consumer(0); len(c.Out.Said) != 0 || c.Set[0].N != 4 {
		t.Errorf("too early: %+v", c)
	}
	doAll(t, w, tick(1), consume(0), back(heads(0)))
	if n := doAll(t, w, provide()); n != 0 {
		t.Errorf("paid, but the provider has not heard: %d", n)
	}
	doAll(t, w, back(deliver(0)))
	if n := doAll(t, w, provide()); n != 1 || w.Provider().Stake.Bank.Free[0] != 99600 {
		t.Errorf("not paid: %d, %+v", n, w.Provider().Stake)
	}
}

// Example 3: who signs twice on a consumer loses a part of what is bonded, and of what was unbonded since.
func TestExampleDouble(t *testing.T) {
	w := made(t, unbonded()...)
	doAll(t, w, double(0, 0, 1), consume(0), back(heads(0)), back(deliver(0)), provide())
	p := w.Provider()
	if s := p.Stake; s.Bank.Burnt != 35 || s.Waits[0].Amount != 285 || s.Validators[0].Tokens != 380 || !s.Validators[0].Dead || len(p.Set) != 0 {
		t.Errorf("%+v", p)
	}
	refuses(t, w, unjail(0), api.ErrDead)
	refuses(t, w, delegate(1, 0, 100), api.ErrDead)
}

// Example 4: a packet that lies about for 40 ticks ends the consumer, and what was held for it is free.
func TestExampleLate(t *testing.T) {
	w := made(t, unbonded()...)
	doAll(t, w, tick(39), heads(0), consume(0), back(heads(0)))
	refuses(t, w, expire(0, 1), api.ErrEarly)
	doAll(t, w, tick(1), consume(0), back(heads(0)))
	refuses(t, w, deliver(0), api.ErrLate)
	if n := doAll(t, w, provide()); n != 0 {
		t.Errorf("paid, but it is held: %d", n)
	}
	doAll(t, w, expire(0, 1))
	if w.Consumer(0).On || w.Provider().Links[0].On || w.Provider().Stake.Waits[0].Holds[0] != 0 {
		t.Errorf("%+v", w.Provider())
	}
	if n := doAll(t, w, provide()); n != 1 {
		t.Errorf("not paid: %d", n)
	}
}

// A validator that was down is jailed, the consumer is told, and may tell of it again.
func TestDownAllTheWay(t *testing.T) {
	w := made(t, delegate(0, 0, 700), delegate(0, 1, 300), provide(), begin(0), tick(10), provide(), down(0, 1))
	refuses(t, w, down(0, 1), api.ErrTwice)
	doAll(t, w, consume(0), back(heads(0)), back(deliver(0)), provide(), heads(0), deliver(0), consume(0))
	c := w.Consumer(0)
	if !w.Provider().Stake.Validators[1].Jailed || c.Flags[1] || !slices.Equal(c.Set, []api.Power{{V: 0, N: 7}}) {
		t.Errorf("%+v", c)
	}
	doAll(t, w, unjail(1), provide(), heads(0), deliver(0), consume(0), down(0, 1))
}
