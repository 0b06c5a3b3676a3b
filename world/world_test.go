package world_test

import (
	"math"
	"reflect"
	"slices"
	"testing"

	"suzerain/api"
	"suzerain/provider"
	"suzerain/stake"
	"suzerain/world"
)

// P9.1: nothing has happened.
func TestNew(t *testing.T) {
	if a := look(world.New()); !same(a, whole{Provider: provider.New()}) {
		t.Errorf("New: %+v", a)
	}
}

// P9.1: of two worlds each is its own.
func TestWorldsApart(t *testing.T) {
	a, b := world.New(), world.New()
	doAll(t, a, busy()...)
	if !same(look(b), look(world.New())) {
		t.Errorf("what was done to one world is seen in another: %+v", look(b))
	}
}

// P9.1: as it stands, behind each deed.
func TestAsItStands(t *testing.T) {
	w := made(t, lent()...)
	p := w.Provider()
	if w.Clock() != 5 || p.Height != 2 || p.Time != 3 || p.Stake.Bank.Bonded != 3050 || !slices.Equal(p.Set, []api.Power{{V: 0, N: 18}, {V: 1, N: 3}, {V: 2, N: 9}}) {
		t.Errorf("%d, %+v", w.Clock(), p)
	}
	if c := w.Consumer(0); !c.On || c.Id != 1 || c.Time != 0 || !slices.Equal(c.Set, []api.Power{{V: 0, N: 7}, {V: 1, N: 3}, {V: 2, N: 9}}) {
		t.Errorf("consumer 0: %+v", c)
	}
	if c := w.Consumer(1); !c.On || c.Id != 2 || c.Time != 5 || !slices.Equal(c.Set, p.Set) {
		t.Errorf("consumer 1: %+v", c)
	}
}

// P9.1: there is no consumer of that number.
func TestConsumerOfNoNumber(t *testing.T) {
	for _, w := range []*world.World{nil, world.New(), made(t, busy()...)} {
		for _, i := range noConsumers() {
			if c := w.Consumer(i); !reflect.DeepEqual(c, api.Consumer{}) {
				t.Errorf("consumer %d: %+v", i, c)
			}
		}
	}
}

// P9.1: a nil world, also behind more deeds than any other world takes.
func TestNilWorld(t *testing.T) {
	var w *world.World
	for range 50 {
		for _, kind := range append(kinds(), noKinds()...) {
			for _, c := range []int{0, 1, -1, 2} {
				if r := w.Do(api.Deed{Kind: kind, C: c, N: 1}); r != (api.Reply{Code: api.ErrNone}) {
					t.Fatalf("Do of kind %d: %+v", kind, r)
				}
			}
		}
	}
	if a := look(w); !reflect.DeepEqual(a, whole{}) {
		t.Errorf("a nil world: %+v", a)
	}
}

// A world that is not New has no stake that could be one: but no call on it panics, and what is said first is the same.
func TestZeroWorld(t *testing.T) {
	w := new(world.World)
	for _, kind := range append(kinds(), noKinds()...) {
		for _, d := range []api.Deed{{}, {C: 1, N: 1}, {N: 1, Back: true}, {Forged: true}} {
			d.Kind = kind
			if r := w.Do(d); r.Code == api.OK && kind != api.DeedTick {
				t.Errorf("%+v: %+v", d, r)
			}
		}
	}
	for _, c := range noConsumers() {
		check(t, w, begin(c), api.Reply{Code: api.ErrNone}, nil)
	}
	check(t, w, begin(0), api.Reply{Code: api.ErrRange}, nil)
}

// P9.2: MaxDeeds deeds are done, whatever their replies are; then all are refused, ahead of anything else.
func TestFull(t *testing.T) {
	for _, x := range []struct {
		d    api.Deed
		code api.Errno
	}{
		{tick(1), api.OK}, {provide(), api.OK}, {tick(0), api.ErrRange}, {api.Deed{}, api.ErrKind}, {api.Deed{Kind: 99}, api.ErrKind},
		{consume(0), api.ErrNone}, {begin(0), api.ErrEarly}, {begin(9), api.ErrNone}, {delegate(9, 0, 1), api.ErrNone},
		{unjail(0), api.ErrNone}, {evidence(0, 1), api.ErrRange},
	} {
		w := world.New()
		for i := range api.MaxDeeds {
			if r := w.Do(x.d); r.Code != x.code {
				t.Fatalf("deed %d, %+v: %+v", i+1, x.d, r)
			}
		}
		for _, kind := range append(kinds(), noKinds()...) {
			for _, c := range []int{0, -1} {
				check(t, w, api.Deed{Kind: kind, C: c, N: 1}, api.Reply{Code: api.ErrFull}, nil)
			}
		}
	}
}

// P9.2: the last deed is done, be it what it may.
func TestLastDeed(t *testing.T) {
	for _, last := range []struct {
		d    api.Deed
		want api.Reply
	}{
		{tick(7), api.Reply{N: 12}}, {consume(0), api.Reply{}}, {begin(0), api.Reply{Code: api.ErrTwice}}, {tick(0), api.Reply{Code: api.ErrRange}},
	} {
		w := made(t, lent()...)
		for range api.MaxDeeds - len(lent()) - 1 {
			w.Do(api.Deed{})
		}
		if r := w.Do(last.d); r != last.want {
			t.Errorf("the last deed, %+v: %+v", last.d, r)
		}
		check(t, w, tick(1), api.Reply{Code: api.ErrFull}, nil)
	}
}

// P9.2: a kind that is none, which comes ahead of a consumer that is none.
func TestKinds(t *testing.T) {
	for _, w := range []*world.World{world.New(), made(t, busy()...)} {
		for _, kind := range noKinds() {
			for _, c := range []int{0, 1, -1, 2} {
				refuses(t, w, api.Deed{Kind: kind, C: c, D: 1, V: 1, N: 1}, api.ErrKind)
				refuses(t, w, api.Deed{Kind: kind, C: c, Back: true, Forged: true}, api.ErrKind)
			}
		}
	}
	if l := kinds(); len(l) != 13 || slices.Min(l) != 1 || slices.Max(l) != 13 {
		t.Errorf("kinds: %v", l)
	}
}

// numbers are right and wrong ones, for delegators, validators, heights and amounts.
func numbers() []int {
	return []int{math.MinInt, -1, 0, 1, 2, 3, 4, 5, 6, 40, 300, 951, 100000, 100001, api.MaxAmount, api.MaxAmount + 1, math.MaxInt}
}

// asOf looks whether a deed is what a call on the provider makes of it, of a copy of the world.
func asOf(t *testing.T, w *world.World, d api.Deed, call func(p api.Provider) (api.Provider, api.Errno)) {
	t.Helper()
	p, e := call(w.Provider())
	if e != api.OK {
		refuses(t, w, d, e)
		return
	}
	other := *w
	check(t, &other, d, api.Reply{}, func(a *whole) { a.Provider = p })
}

// P9.2: as of the provider, by D, V and N alone.
func TestDelegate(t *testing.T) {
	for _, w := range []*world.World{world.New(), made(t, busy()...)} {
		for _, n := range numbers() {
			for _, d := range []api.Deed{delegate(0, 0, n), delegate(3, 4, n), delegate(1, 3, n), delegate(n, 1, 50), delegate(2, n, 50)} {
				d.C, d.Back, d.Forged = n, true, true
				asOf(t, w, d, func(p api.Provider) (api.Provider, api.Errno) { return provider.Delegate(p, d.D, d.V, d.N) })
			}
		}
	}
	w := made(t, delegate(2, 4, 650))
	if s := w.Provider().Stake; s.Shares[2][4] != 650 || s.Validators[4].Tokens != 650 || s.Bank.Free[2] != 99350 {
		t.Errorf("Delegate: %+v", s)
	}
}

// P9.2: N shares, and now is the clock.
func TestUndelegate(t *testing.T) {
	for _, w := range []*world.World{made(t, lent()...), made(t, busy()...)} {
		for _, n := range numbers() {
			for _, d := range []api.Deed{undelegate(0, 0, n), undelegate(2, 2, n), undelegate(1, 3, n), undelegate(n, 0, 50), undelegate(2, n, 50)} {
				d.C, d.Back, d.Forged = n, true, true
				asOf(t, w, d, func(p api.Provider) (api.Provider, api.Errno) {
					return provider.Undelegate(p, d.D, d.V, d.N, w.Clock())
				})
			}
		}
	}
	w := made(t, append(lent(), tick(30), undelegate(0, 0, 300))...)
	want := []api.Wait{{Number: 1, D: 0, V: 0, Amount: 300, Height: 3, Due: 55, Holds: [api.Consumers]int{3, 3}}}
	if p := w.Provider(); !slices.Equal(p.Stake.Waits, want) || !p.Links[0].Fresh || !p.Links[1].Fresh {
		t.Errorf("Undelegate: %+v", p)
	}
}

// P9.2: no more unbondings than may be.
func TestManyWaits(t *testing.T) {
	w := made(t, lent()...)
	for range api.MaxWaits {
		doAll(t, w, undelegate(0, 0, 1))
	}
	refuses(t, w, undelegate(0, 0, 1), api.ErrFull)
}

// jailed are deeds by which validator 1 is jailed, and validator 2 buried.
func jailed() []api.Deed {
	return append(lent(), down(0, 1), consume(0), back(heads(0)), back(deliver(0)), evidence(2, 1), provide())
}

// P9.2: as of the stake.
func TestUnjail(t *testing.T) {
	w := made(t, jailed()...)
	for _, n := range numbers() {
		d := api.Deed{Kind: api.DeedUnjail, V: n, C: n, D: n, N: n, Back: true, Forged: true}
		asOf(t, w, d, func(p api.Provider) (api.Provider, api.Errno) {
			var e api.Errno
			p.Stake, e = stake.Unjail(p.Stake, n)
			return p, e
		})
	}
	refuses(t, w, unjail(0), api.ErrNone)
	refuses(t, w, unjail(2), api.ErrDead)
	refuses(t, w, unjail(6), api.ErrNone)
	if s := w.Provider().Stake; !s.Validators[1].Jailed {
		t.Fatalf("not jailed: %+v", s)
	}
	doAll(t, w, unjail(1))
	if s := w.Provider().Stake; s.Validators[1].Jailed {
		t.Errorf("Unjail: %+v", s)
	}
	refuses(t, w, unjail(1), api.ErrNone)
}

// P9.2: N is the height.
func TestEvidence(t *testing.T) {
	for _, w := range []*world.World{world.New(), made(t, jailed()...), made(t, busy()...)} {
		for _, n := range numbers() {
			for _, d := range []api.Deed{evidence(0, n), evidence(1, n), evidence(2, n), evidence(n, 2)} {
				d.C, d.D, d.Back, d.Forged = n, n, true, true
				asOf(t, w, d, func(p api.Provider) (api.Provider, api.Errno) { return provider.Evidence(p, d.V, d.N) })
			}
		}
	}
	// Of what waits only the later unbonding is burnt of.
	w := made(t, append(lent(), undelegate(0, 0, 300), provide(), undelegate(0, 0, 100), provide(), evidence(0, 4))...)
	if s := w.Provider().Stake; s.Waits[0].Amount != 300 || s.Waits[1].Amount != 95 || s.Bank.Burnt != 75 {
		t.Errorf("Evidence: %+v", s)
	}
}

// P9.2: the clock is N more, and N is the clock.
func TestTick(t *testing.T) {
	for _, w := range []*world.World{world.New(), made(t, busy()...)} {
		for _, n := range []int{1, 2, 20, 1 << 32} {
			now := w.Clock() + n
			check(t, w, api.Deed{Kind: api.DeedTick, N: n, C: -1, D: -1, V: -1, Back: true, Forged: true}, api.Reply{N: now}, func(a *whole) { a.Clock = now })
		}
	}
}

// P9.2: up to MaxTime - Timeout; no number goes round.
func TestTickErrors(t *testing.T) {
	last := api.MaxTime - api.Timeout
	for _, clock := range []int{0, 1, 1000, last - 1, last} {
		w := world.New()
		if clock > 0 {
			doAll(t, w, tick(clock))
		}
		room := last - clock
		for _, n := range []int{math.MinInt, math.MinInt + 1, -1000, -1, 0, room + 1, room + 2, api.MaxTime, math.MaxInt - clock, math.MaxInt - clock + 1, math.MaxInt - 1, math.MaxInt} {
			refuses(t, w, tick(n), api.ErrRange)
		}
		if room > 0 {
			check(t, w, tick(room), api.Reply{N: last}, func(a *whole) { a.Clock = last })
			refuses(t, w, tick(1), api.ErrRange)
		}
	}
}

// P9.2: at the last time all goes on as ever.
func TestLastTime(t *testing.T) {
	w := made(t, append(lent(), tick(api.MaxTime-api.Timeout-5), undelegate(0, 0, 300), provide(), heads(1), deliver(1), consume(1), double(1, 0, 2))...)
	if due := w.Provider().Links[1].Out.Due; !slices.Equal(due, []int{api.MaxTime}) {
		t.Errorf("too late at %v", due)
	}
	if due := w.Consumer(1).Out.Due; !slices.Equal(due, []int{api.MaxTime}) {
		t.Errorf("too late at %v", due)
	}
}

// P9.8: the replies of a new world, one by one.
func TestRun(t *testing.T) {
	deeds := append(busy(), api.Deed{}, tick(-1), begin(0), consume(2), expire(0, 1), tick(50), provide(), heads(1), back(expire(1, 2)), consume(1))
	w := world.New()
	var want []api.Reply
	for _, d := range deeds {
		want = append(want, w.Do(d))
	}
	for range 2 {
		if l, e := world.Run(deeds); !slices.Equal(l, want) || e != api.OK {
			t.Errorf("Run: %v, %d; want %v", l, e, want)
		}
	}
	if l, e := world.Run([]api.Deed{{}, tick(3), tick(4), begin(0)}); e != api.OK || !slices.Equal(l, []api.Reply{{Code: api.ErrKind}, {N: 3}, {N: 7}, {Code: api.ErrEarly}}) {
		t.Errorf("Run: %v, %d", l, e)
	}
}

// P9.8: as many deeds as may be, and more.
func TestRunErrors(t *testing.T) {
	for _, deeds := range [][]api.Deed{nil, {}} {
		if l, e := world.Run(deeds); len(l) != 0 || e != api.OK {
			t.Errorf("Run of none: %v, %d", l, e)
		}
	}
	for _, d := range []api.Deed{{}, tick(1), provide()} {
		l, e := world.Run(slices.Repeat([]api.Deed{d}, api.MaxDeeds))
		if len(l) != api.MaxDeeds || e != api.OK || l[api.MaxDeeds-1].Code == api.ErrFull {
			t.Errorf("Run of %d: %v, %d", api.MaxDeeds, l, e)
		}
		for _, n := range []int{api.MaxDeeds + 1, api.MaxDeeds + 2, 5000} {
			if l, e := world.Run(slices.Repeat([]api.Deed{d}, n)); len(l) != 0 || e != api.ErrFull {
				t.Errorf("Run of %d: %v, %d", n, l, e)
			}
		}
	}
}
