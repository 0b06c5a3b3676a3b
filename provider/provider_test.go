package provider_test

import (
	"math"
	"slices"
	"testing"

	"suzerain/api"
	"suzerain/provider"
	"suzerain/stake"
)

// P7.2: as of the stake, and nothing but the stake changes.
func TestDelegate(t *testing.T) {
	want := mixed()
	want.Stake.Bank.Free[1], want.Stake.Bank.Bonded = 98900, 2565
	want.Stake.Validators[0] = api.Validator{Tokens: 1200, Shares: 1200}
	want.Stake.Shares[1][0] = 500
	p, e := provider.Delegate(mixed(), 1, 0, 200)
	check(t, "Delegate", p, e, want, api.OK)
	p, e = provider.Delegate(provider.New(), 3, 5, 100000)
	if e != api.OK || p.Stake.Shares[3][5] != 100000 || p.Stake.Bank.Free[3] != 0 || p.Height != 0 {
		t.Errorf("Delegate of a whole grant: %+v, %d", p, e)
	}
	for _, x := range []struct{ d, v, n int }{
		{0, 0, 1}, {2, 1, 95}, {3, 3, 1}, {0, 4, 7}, {0, 5, 99000}, {0, 1, 99001}, {0, 2, 5}, {0, 0, 0}, {0, 0, -1},
		{0, 2, 0}, {-1, 2, 0}, {4, 0, 1}, {0, -1, 1}, {0, 6, 1}, {0, 0, api.MaxAmount}, {0, 0, api.MaxAmount + 1}, {0, 1, math.MaxInt},
	} {
		want := mixed()
		s, code := stake.Delegate(want.Stake, x.d, x.v, x.n)
		want.Stake = s
		p, e := provider.Delegate(mixed(), x.d, x.v, x.n)
		check(t, "Delegate", p, e, want, code)
	}
}

// P7.2
func TestDelegateErrors(t *testing.T) {
	small := with(func(p *api.Provider) {
		p.Stake.Validators[3].Shares, p.Stake.Shares[0][3] = 10, 10
	})
	full := with(func(p *api.Provider) {
		p.Stake.Validators[5].Shares, p.Stake.Shares[3][5] = api.MaxAmount, api.MaxAmount
	})
	for _, x := range []struct {
		before  api.Provider
		d, v, n int
		code    api.Errno
	}{
		{mixed(), 0, 2, 5, api.ErrDead}, {mixed(), 0, 2, 0, api.ErrDead}, {mixed(), 9, 2, 0, api.ErrNone}, {mixed(), 0, 9, 0, api.ErrNone},
		{mixed(), 0, 0, 0, api.ErrRange}, {mixed(), 0, 0, -5, api.ErrRange}, {mixed(), 0, 0, api.MaxAmount + 1, api.ErrRange},
		{mixed(), 0, 0, 99001, api.ErrFunds}, {small, 0, 3, 5, api.ErrSmall}, {full, 0, 5, 5, api.ErrFull},
	} {
		p, e := provider.Delegate(x.before, x.d, x.v, x.n)
		check(t, "Delegate", p, e, x.before, x.code)
	}
	for _, d := range noDelegators() {
		p, e := provider.Delegate(mixed(), d, 0, 5)
		check(t, "Delegate of no delegator", p, e, mixed(), api.ErrNone)
	}
	for _, v := range noValidators() {
		p, e := provider.Delegate(mixed(), 0, v, 5)
		check(t, "Delegate to no validator", p, e, mixed(), api.ErrNone)
	}
}

// status makes a consumer's link 0: nothing yet, 1: on, 2: gone.
func status(p *api.Provider, c, n int) {
	p.Links[c] = api.Link{On: n == 1, Gone: n == 2, Base: c}
}

// P7.2: held by each consumer that is on, and by none else, for the open block's height.
func TestUndelegate(t *testing.T) {
	for _, now := range []int{0, 1, 49, 50, 77, api.MaxTime} {
		for of0 := range 3 {
			for of1 := range 3 {
				before := free()
				status(&before, 0, of0)
				status(&before, 1, of1)
				want := before
				want.Stake.Bank.Bonded, want.Stake.Bank.Waiting = 2270, 410
				want.Stake.Validators[1] = api.Validator{Tokens: 760, Shares: 800, Lost: 50}
				want.Stake.Shares[2][1] = 600
				w := api.Wait{Number: 9, D: 2, V: 1, Amount: 95, Height: 10, Due: now + 20}
				for c, n := range []int{of0, of1} {
					if n == 1 {
						w.Holds[c] = 10
						want.Links[c].Fresh = true
					}
				}
				want.Stake.Waits = append(slices.Clone(before.Stake.Waits), w)
				want.Stake.Next = 10
				p, e := provider.Undelegate(before, 2, 1, 100, now)
				check(t, "Undelegate", p, e, want, api.OK)
			}
		}
	}
}

// P7.2: what the links else have stays; who is not on stays as it was, be it Fresh or not.
func TestUndelegateKeepsLinks(t *testing.T) {
	p, e := provider.Undelegate(mixed(), 0, 0, 1, 50)
	want := mixed()
	want.Links[1].Fresh = true
	want.Stake = p.Stake
	check(t, "Undelegate", p, e, want, api.OK)
	odd := free()
	odd.Links[1].Fresh = true
	p, e = provider.Undelegate(odd, 0, 0, 1, 50)
	want = odd
	want.Stake = p.Stake
	check(t, "Undelegate", p, e, want, api.OK)
}

// P7.2: the open block of a new chain is 1, and of the last good one MaxTime.
func TestUndelegateAtTheEdges(t *testing.T) {
	p, _ := provider.Delegate(provider.New(), 0, 0, 300)
	p, e := provider.Undelegate(p, 0, 0, 300, 0)
	if w := (api.Wait{Number: 1, Amount: 300, Height: 1, Due: 20}); e != api.OK || !slices.Equal(p.Stake.Waits, []api.Wait{w}) {
		t.Errorf("Undelegate: %+v, %d", p.Stake.Waits, e)
	}
	last := with(func(p *api.Provider) { p.Height = api.MaxTime - 1 })
	p, e = provider.Undelegate(last, 0, 0, 300, api.MaxTime)
	want := api.Wait{Number: 9, Amount: 300, Height: api.MaxTime, Due: api.MaxTime + 20, Holds: holds(api.MaxTime, api.MaxTime)}
	if e != api.OK || p.Stake.Waits[4] != want || !provider.Good(p) {
		t.Errorf("Undelegate: %+v, %d", p.Stake.Waits, e)
	}
}

// crowded is the mixed chain with as many unbondings as may be.
func crowded() api.Provider {
	return with(func(p *api.Provider) {
		for len(p.Stake.Waits) < api.MaxWaits {
			p.Stake.Waits = append(p.Stake.Waits, api.Wait{Number: p.Stake.Next, Height: 2})
			p.Stake.Next++
		}
	})
}

// P7.2: a wrong now comes ahead of the stake's errors; with an error nobody is Fresh.
func TestUndelegateErrors(t *testing.T) {
	for _, now := range noTimes() {
		for _, x := range [][3]int{{0, 0, 1}, {9, 0, 1}, {0, 9, 1}, {0, 0, 0}, {0, 0, 701}} {
			p, e := provider.Undelegate(mixed(), x[0], x[1], x[2], now)
			check(t, "Undelegate at no time", p, e, mixed(), api.ErrRange)
		}
	}
	small := with(func(p *api.Provider) {
		p.Stake.Validators[5].Shares, p.Stake.Shares[3][5] = 6000, 6000
	})
	for _, x := range []struct {
		before       api.Provider
		d, v, shares int
		code         api.Errno
	}{
		{mixed(), 4, 0, 0, api.ErrNone}, {mixed(), 0, 6, 0, api.ErrNone}, {mixed(), -1, 0, 1, api.ErrNone}, {mixed(), 0, -1, 1, api.ErrNone},
		{mixed(), 0, 0, 0, api.ErrRange}, {mixed(), 0, 0, -1, api.ErrRange}, {mixed(), 0, 0, api.MaxAmount + 1, api.ErrRange},
		{mixed(), 0, 0, 701, api.ErrFunds}, {mixed(), 0, 3, 1, api.ErrFunds}, {crowded(), 0, 0, 701, api.ErrFunds},
		{crowded(), 0, 0, 1, api.ErrFull}, {small, 3, 5, 99, api.ErrSmall},
	} {
		p, e := provider.Undelegate(x.before, x.d, x.v, x.shares, 50)
		check(t, "Undelegate", p, e, x.before, x.code)
	}
}

// P7.3: the link is new, whatever stood in it, and holds what was unbonded in the open block, and nothing else.
func TestBegin(t *testing.T) {
	for c := range api.Consumers {
		for _, before := range []api.Provider{free(), with(func(p *api.Provider) { p.Links[c].On, p.Queue = false, nil })} {
			want := before
			want.Links[c] = api.Link{On: true, Base: 9, Told: []api.Power{{V: 0, N: 11}, {V: 1, N: 8}, {V: 4, N: 2}}, Fresh: true}
			want.Stake.Waits = slices.Clone(before.Stake.Waits)
			want.Stake.Waits[3].Holds[c] = 10
			p, e := provider.Begin(before, c)
			check(t, "Begin", p, e, want, api.OK)
		}
	}
}

// P7.3: who begins in a block without unbondings is not Fresh; those of other blocks are not held.
func TestBeginWithoutUnbondings(t *testing.T) {
	for _, height := range []int{0, 1, 9, 11, math.MaxInt} {
		before := free()
		for i := range before.Stake.Waits {
			before.Stake.Waits[i].Height = height
		}
		want := before
		want.Links[1] = api.Link{On: true, Base: 9, Told: before.Set}
		p, e := provider.Begin(before, 1)
		check(t, "Begin", p, e, want, api.OK)
	}
	before := free()
	for i := range before.Stake.Waits {
		before.Stake.Waits[i].Height = 10
	}
	p, e := provider.Begin(before, 0)
	for _, w := range p.Stake.Waits {
		if e != api.OK || w.Holds != holds(10, 0) || !p.Links[0].Fresh {
			t.Errorf("Begin: %+v, %d", p, e)
		}
	}
}

// P7.3: each error, and which one comes first.
func TestBeginErrors(t *testing.T) {
	early := func(p api.Provider) api.Provider { p.Set = nil; return p }
	none := func(p api.Provider) api.Provider { p.Height = 0; return p }
	empty := func(p api.Provider) api.Provider { p.Set = []api.Power{}; return p }
	gone := free()
	gone.Links[0].Gone = true
	on := free()
	on.Links[0].On = true
	for _, x := range []struct {
		before api.Provider
		code   api.Errno
		what   string
	}{
		{gone, api.ErrGone, "who is gone"}, {early(gone), api.ErrGone, "who is gone, too early"}, {none(gone), api.ErrGone, "who is gone, ahead of blocks"},
		{on, api.ErrTwice, "who is on"}, {early(on), api.ErrTwice, "who is on, too early"}, {none(on), api.ErrTwice, "who is on, ahead of blocks"},
		{early(free()), api.ErrEarly, "a chain without a set"}, {empty(free()), api.ErrEarly, "a chain with an empty set"},
		{none(free()), api.ErrEarly, "a chain without blocks"}, {provider.New(), api.ErrEarly, "a new chain"},
	} {
		p, e := provider.Begin(x.before, 0)
		check(t, "Begin of "+x.what, p, e, x.before, x.code)
		for _, c := range noConsumers() {
			p, e := provider.Begin(x.before, c)
			check(t, "Begin of none", p, e, x.before, api.ErrNone)
		}
	}
	if _, e := provider.Begin(gone, 1); e != api.OK {
		t.Errorf("Begin of the other one: %d", e)
	}
	one := none(free())
	one.Height = 1
	if p, e := provider.Begin(one, 1); e != api.OK || p.Links[1].Base != 1 {
		t.Errorf("Begin at the first block: %+v, %d", p, e)
	}
}

// P7.4
func TestRemove(t *testing.T) {
	want := mixed()
	link := &want.Links[0]
	link.On, link.Gone, link.Fresh, link.Done, link.Out.Closed = false, true, false, nil, true
	for i, h := range [][api.Consumers]int{holds(0, 0), holds(0, 6), holds(0, 0), holds(0, 10)} {
		want.Stake.Waits[i].Holds = h
	}
	want.Queue = []api.Asked{{C: 1, P: down(0)}, {C: 1, P: matured(6)}}
	p := provider.Remove(mixed(), 0)
	check(t, "Remove", p, api.OK, want, api.OK)

	link = &want.Links[1]
	link.On, link.Gone, link.Done, link.Out.Closed = false, true, nil, true
	for i := range want.Stake.Waits {
		want.Stake.Waits[i].Holds = holds(0, 0)
	}
	want.Queue = nil
	check(t, "Remove of both", provider.Remove(p, 1), api.OK, want, api.OK)
}

// P7.4: as it was, if there is none, or it is not on.
func TestRemoveOfNone(t *testing.T) {
	for _, c := range noConsumers() {
		check(t, "Remove", provider.Remove(mixed(), c), api.OK, mixed(), api.OK)
	}
	for _, gone := range []bool{false, true} {
		p := with(func(p *api.Provider) {
			p.Links[0].On, p.Links[0].Gone = false, gone
			p.Queue = []api.Asked{{C: 1, P: down(0)}}
		})
		check(t, "Remove of who is not on", provider.Remove(p, 0), api.OK, p, api.OK)
	}
	p := provider.Remove(mixed(), 0)
	check(t, "Remove again", provider.Remove(p, 0), api.OK, p, api.OK)
	if _, e := provider.Begin(p, 0); e != api.ErrGone {
		t.Errorf("Begin of who is gone: %d", e)
	}
}

// P7.4: holds up to MaxTime.
func TestRemoveReleases(t *testing.T) {
	for _, x := range [][2]int{{0, 0}, {1, 0}, {api.MaxTime - 1, 0}, {api.MaxTime, 0}, {api.MaxTime + 1, api.MaxTime + 1}, {math.MaxInt, math.MaxInt}, {-1, 0}} {
		p := with(func(p *api.Provider) { p.Stake.Waits[2].Holds = holds(7, x[0]) })
		p = provider.Remove(p, 1)
		if h := p.Stake.Waits[2].Holds; h != holds(7, x[1]) {
			t.Errorf("Remove: a hold of %d becomes %v", x[0], h)
		}
	}
}

// P7.5
func TestHear(t *testing.T) {
	for _, packet := range []api.Packet{matured(1), matured(api.MaxTime), down(5), double(9, 0), {Kind: api.Down, Id: 3, V: 2, N: 1}} {
		for c := range api.Consumers {
			for _, before := range []api.Provider{mixed(), calm()} {
				want := before
				want.Queue = append(slices.Clone(before.Queue), api.Asked{C: c, P: packet})
				p, e := provider.Hear(before, c, text(t, packet))
				check(t, "Hear", p, e, want, api.OK)
			}
		}
	}
}

// P7.5: the same packet may stand in the queue again and again, in the order of its coming.
func TestHearInOrder(t *testing.T) {
	p := calm()
	var want []api.Asked
	for i := range 500 {
		a := api.Asked{C: i % 2, P: down(i % 3)}
		want = append(want, a)
		after, e := provider.Hear(p, a.C, text(t, a.P))
		if e != api.OK {
			t.Fatalf("Hear: %d", e)
		}
		p = after
	}
	check(t, "Hear", p, api.OK, calmWith(func(p *api.Provider) { p.Queue = want }), api.OK)
}

// P7.5: each error, and which one comes first.
func TestHearErrors(t *testing.T) {
	change := text(t, api.Packet{Kind: api.Change, Id: 5, Set: []api.Power{{V: 1, N: 3}}, Done: []int{2}})
	good := text(t, matured(5))
	noKind := "\x05" + good[1:]
	noId := good[:1] + "\x00\x00\x00\x00\x00\x00" + good[7:]
	for _, x := range []struct {
		s    string
		code api.Errno
	}{
		{"", api.ErrForm}, {"no packet", api.ErrForm}, {good + "\x00", api.ErrForm}, {good[1:], api.ErrForm}, {change[:20], api.ErrForm},
		{noKind, api.ErrKind}, {noId, api.ErrRange}, {"\x02" + change[1:], api.ErrForm}, {change, api.ErrKind},
		{text(t, api.Packet{Kind: api.Change, Id: 1}), api.ErrKind},
	} {
		p, e := provider.Hear(mixed(), 1, x.s)
		check(t, "Hear", p, e, mixed(), x.code)
		for _, c := range noConsumers() {
			p, e := provider.Hear(mixed(), c, x.s)
			check(t, "Hear of none", p, e, mixed(), api.ErrNone)
		}
		for _, before := range []api.Provider{free(), provider.New(), provider.Remove(mixed(), 1)} {
			p, e := provider.Hear(before, 1, x.s)
			check(t, "Hear of who is not on", p, e, before, api.ErrNone)
			p, e = provider.Hear(before, 1, good)
			check(t, "Hear of who is not on", p, e, before, api.ErrNone)
		}
	}
}

// P7.7: a twentieth of what is bonded, and of what was unbonded from the height on.
func TestEvidence(t *testing.T) {
	for _, x := range []struct{ height, of0, of1 int }{{1, 4, 3}, {3, 4, 3}, {4, 0, 3}, {8, 0, 3}, {9, 0, 0}} {
		want := mixed()
		burnt := 42 + x.of0 + x.of1
		want.Stake.Validators[1] = api.Validator{Tokens: 813, Shares: 900, Lost: 50 + burnt, Jailed: true, Dead: true}
		want.Stake.Waits[0].Amount -= x.of0
		want.Stake.Waits[2].Amount -= x.of1
		want.Stake.Bank.Bonded, want.Stake.Bank.Waiting, want.Stake.Bank.Burnt = 2323, 315-x.of0-x.of1, 60+burnt
		p, e := provider.Evidence(mixed(), 1, x.height)
		check(t, "Evidence", p, e, want, api.OK)
	}
	// Who has nothing is buried all the same, and who is jailed, too.
	for _, v := range []int{3, 4} {
		p, e := provider.Evidence(mixed(), v, 9)
		if at := p.Stake.Validators[v]; e != api.OK || !at.Dead || !at.Jailed || at.Lost != at.Shares/20 {
			t.Errorf("Evidence: %+v, %d", at, e)
		}
		again, e := provider.Evidence(p, v, 9)
		check(t, "Evidence again", again, e, p, api.ErrDead)
	}
}

// P7.7: each error, and which one comes first.
func TestEvidenceErrors(t *testing.T) {
	for _, height := range []int{math.MinInt, -1, 0, 1, 9, 10, math.MaxInt} {
		for _, v := range noValidators() {
			p, e := provider.Evidence(mixed(), v, height)
			check(t, "Evidence", p, e, mixed(), api.ErrNone)
		}
		for v := range api.Validators {
			code := api.OK
			if v == 2 {
				code = api.ErrDead
			}
			if height < 1 || height > 9 {
				code = api.ErrRange
			}
			p, e := provider.Evidence(mixed(), v, height)
			if e != code || e != api.OK && !same(p, mixed()) {
				t.Errorf("Evidence of %d at %d: %d; want %d", v, height, e, code)
			}
			if p, e := provider.Evidence(provider.New(), v, height); e != api.ErrRange || !same(p, provider.New()) {
				t.Errorf("Evidence on a new chain: %d", e)
			}
		}
	}
}
