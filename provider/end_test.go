package provider_test

import (
	"math"
	"reflect"
	"slices"
	"testing"

	"suzerain/api"
	"suzerain/codec"
	"suzerain/provider"
	"suzerain/stake"
)

// asked is the calm chain with a meter and packets in its queue.
func asked(left int, queue ...api.Asked) api.Provider {
	return calmWith(func(p *api.Provider) {
		p.Meter.Left = left
		p.Queue = queue
	})
}

// ended is a chain behind a block's end that goes well, and what was paid.
func ended(t *testing.T, p api.Provider, now int) (api.Provider, []int) {
	t.Helper()
	after, paid, e := provider.End(p, now)
	if e != api.OK || !provider.Good(after) {
		t.Fatalf("End: %+v, %d", after, e)
	}
	return after, paid
}

// told is the last packet of a line, which must be a good one.
func told(t *testing.T, l api.Line) api.Packet {
	t.Helper()
	if len(l.Said) == 0 {
		t.Fatal("nothing is told")
	}
	packet, e := codec.Decode(l.Said[len(l.Said)-1])
	if e != api.OK {
		t.Fatalf("%q is told: %d", l.Said, e)
	}
	return tidyPacket(packet)
}

// P7.8: a block without news: the height, the time, and nothing else.
func TestEndOfACalmBlock(t *testing.T) {
	for _, now := range []int{50, 51, 54} {
		p, e := end(t, calm(), now)
		check(t, "End", p, e, calmWith(func(p *api.Provider) { p.Height, p.Time = 10, now }), api.OK)
	}
	p, paid, e := provider.End(provider.New(), 0)
	want := provider.New()
	want.Height = 1
	check(t, "the first block", p, e, want, api.OK)
	if len(paid) != 0 {
		t.Errorf("%v is paid", paid)
	}
}

// P7.8: a wrong now.
func TestEndErrors(t *testing.T) {
	for _, now := range append(noTimes(), 0, 48, 49) {
		for _, before := range []api.Provider{mixed(), calm()} {
			p, e := end(t, before, now)
			check(t, "End", p, e, before, api.ErrRange)
		}
	}
	late := calmWith(func(p *api.Provider) { p.Time = api.MaxTime })
	for _, now := range []int{api.MaxTime - 1, api.MaxTime + 1, 60} {
		p, e := end(t, late, now)
		check(t, "End", p, e, late, api.ErrRange)
	}
	if p, e := end(t, late, api.MaxTime); e != api.OK || p.Time != api.MaxTime || p.Height != 10 {
		t.Errorf("End at MaxTime: %+v, %d", p, e)
	}
}

// P7.8: the last block that a chain can end: it is told of, but the chain is no good one any more.
func TestTheLastBlock(t *testing.T) {
	last := mixed()
	last.Height = api.MaxTime - 1
	p, e := end(t, last, api.MaxTime)
	if e != api.OK || p.Height != api.MaxTime || provider.Good(p) {
		t.Errorf("End: %+v, %d", p, e)
	}
	if l := p.Links[0].Out; told(t, l).Id != api.MaxTime || l.Due[2] != api.MaxTime+40 {
		t.Errorf("%v is told until %v", told(t, l), l.Due)
	}
	again, e := end(t, p, api.MaxTime)
	if e != api.ErrRange || !same(again, p) {
		t.Errorf("End behind the last block: %+v, %d", again, e)
	}
}

// P7.8: the meter ticks with all power of the old set, ahead of the queue.
func TestEndTicksTheMeter(t *testing.T) {
	grown := calmWith(func(p *api.Provider) { p.Set = allSix(10) })
	for _, x := range []struct {
		before api.Provider
		now    int
		want   api.Meter
	}{
		{calm(), 54, api.Meter{Left: 2, Next: 55}},
		{calm(), 55, api.Meter{Left: 3, Next: 65}},
		{calm(), 500, api.Meter{Left: 3, Next: 510}},
		{grown, 54, api.Meter{Left: 2, Next: 55}},
		{grown, 55, api.Meter{Left: 12, Next: 65}},
		{calmWith(func(p *api.Provider) { p.Set = nil }), 55, api.Meter{Left: 1, Next: 65}},
		{provider.New(), 10, api.Meter{Left: 1, Next: 20}},
	} {
		p, _ := ended(t, x.before, x.now)
		if p.Meter != x.want {
			t.Errorf("%+v; want %+v", p.Meter, x.want)
		}
	}
	p, _ := ended(t, asked(-9, api.Asked{P: down(0)}), 55)
	if p.Meter != (api.Meter{Left: 3 - 10, Next: 65}) || !p.Stake.Validators[0].Jailed {
		t.Errorf("the meter is filled again ahead of the queue: %+v", p.Meter)
	}
}

// P7.6: a Matured releases what its own consumer held, up to its Id, and nothing else.
func TestMatured(t *testing.T) {
	for c := range api.Consumers {
		for _, id := range []int{1, 3, 5, 6, 9, 10, 11, api.MaxTime} {
			before := asked(2, api.Asked{C: c, P: matured(id)})
			want := calm()
			want.Height, want.Time = 10, 51
			want.Stake = stake.Release(want.Stake, c, id)
			p, e := end(t, before, 51)
			check(t, "a Matured", p, e, want, api.OK)
			for i, w := range p.Stake.Waits {
				old := before.Stake.Waits[i].Holds
				if w.Holds[1-c] != old[1-c] || old[c] <= id && w.Holds[c] != 0 || old[c] > id && w.Holds[c] != old[c] {
					t.Errorf("a Matured of %d by %d: %v becomes %v", id, c, old, w.Holds)
				}
			}
		}
	}
}

// P7.6, P7.8: what the last hold was taken from is paid in the same block, if it is due.
func TestMaturedAndPaid(t *testing.T) {
	for _, x := range []struct {
		now  int
		paid []int
	}{{59, nil}, {60, []int{1}}, {65, []int{1}}, {66, []int{1, 4}}, {99, []int{1, 4}}} {
		p, paid := ended(t, asked(2, api.Asked{C: 0, P: matured(9)}), x.now)
		if !slices.Equal(paid, x.paid) || len(p.Stake.Waits) != 4-len(x.paid) {
			t.Errorf("at %d: %v; want %v", x.now, paid, x.paid)
		}
		p, paid = ended(t, p, 100)
		if len(p.Stake.Waits) != 2 || p.Stake.Waits[0].Number != 3 || p.Stake.Bank.Free != [api.Delegators]int{99000, 99195, 99220, 100000} {
			t.Errorf("at 100: %+v, %v", p.Stake, paid)
		}
	}
	p, paid := ended(t, asked(2, api.Asked{C: 1, P: matured(10)}, api.Asked{C: 0, P: matured(10)}), 99)
	if !slices.Equal(paid, []int{1, 3, 4, 7}) || len(p.Stake.Waits) != 0 || p.Stake.Bank.Waiting != 0 {
		t.Errorf("all: %v, %+v", paid, p.Stake)
	}
}

// P7.6: the meter takes the validator's power, at least 1, whatever N says; the consumer is told whom it need flag no more.
func TestDown(t *testing.T) {
	for _, x := range []struct{ v, left, after int }{{0, 1, -9}, {0, 10, 0}, {1, 5, -3}, {1, 9, 1}, {5, 2, 1}, {5, 1, 0}, {3, 2, 1}} {
		for c := range api.Consumers {
			before := asked(x.left, api.Asked{C: c, P: down(x.v)})
			p, _ := ended(t, before, 51)
			if p.Meter != (api.Meter{Left: x.after, Next: 55}) || len(p.Queue) != 0 {
				t.Errorf("Down of %d: %+v, %v", x.v, p.Meter, p.Queue)
			}
			want := before.Stake
			want.Validators[x.v].Jailed = true
			if !reflect.DeepEqual(p.Stake, want) {
				t.Errorf("Down of %d: %+v; want %+v", x.v, p.Stake, want)
			}
			if done := told(t, p.Links[c].Out).Done; !slices.Equal(done, []int{x.v}) || len(p.Links[c].Done) != 0 {
				t.Errorf("Down of %d: %v is told, %v is not", x.v, done, p.Links[c].Done)
			}
		}
	}
}

// P7.6: with nothing left it waits: nobody is jailed, nobody is told, the meter stays.
func TestDownWaits(t *testing.T) {
	for _, left := range []int{0, -1, math.MinInt} {
		for _, v := range []int{0, 3, 5} {
			before := asked(left, api.Asked{C: 1, P: down(v)})
			want := before
			want.Height, want.Time = 10, 51
			p, e := end(t, before, 51)
			check(t, "Down", p, e, want, api.OK)
			p, e = end(t, p, 54)
			want.Height, want.Time = 11, 54
			check(t, "Down, still waiting", p, e, want, api.OK)
			p, _ = ended(t, p, 55)
			if !p.Stake.Validators[v].Jailed || len(p.Queue) != 0 {
				t.Errorf("Down of %d, when the meter is filled again: %+v", v, p)
			}
		}
	}
}

// P7.6: who is jailed already, or dead, costs nothing, also with nothing left; the consumer is told all the same.
func TestDownOfWhoIsJailed(t *testing.T) {
	for _, v := range []int{2, 4} {
		for _, left := range []int{-5, 0, 3} {
			before := asked(left, api.Asked{C: 0, P: down(v)})
			p, _ := ended(t, before, 51)
			if p.Meter != before.Meter || !reflect.DeepEqual(p.Stake, before.Stake) || len(p.Queue) != 0 {
				t.Errorf("Down of %d: %+v", v, p)
			}
			want := api.Packet{Kind: api.Change, Id: 10, Done: []int{v}}
			if got := told(t, p.Links[0].Out); !reflect.DeepEqual(got, want) || len(p.Links[1].Out.Said) != 1 {
				t.Errorf("Down of %d: %v is told", v, got)
			}
		}
	}
}

// P7.6: Done goes by number, each once; also with what stood there already.
func TestDoneIsByNumber(t *testing.T) {
	of := func(validators ...int) []api.Asked {
		var l []api.Asked
		for _, v := range validators {
			l = append(l, api.Asked{C: 1, P: down(v)})
		}
		return l
	}
	for _, x := range []struct {
		done  []int
		queue []api.Asked
		want  []int
	}{
		{nil, of(4), []int{4}},
		{nil, of(5, 0, 3, 0, 5), []int{0, 3, 5}},
		{[]int{1, 4}, of(4), []int{1, 4}},
		{[]int{1, 4}, of(1, 4), []int{1, 4}},
		{[]int{1, 4}, of(0), []int{0, 1, 4}},
		{[]int{1, 4}, of(2), []int{1, 2, 4}},
		{[]int{1, 4}, of(5), []int{1, 4, 5}},
		{[]int{3}, of(5, 4, 2, 1, 0, 3), []int{0, 1, 2, 3, 4, 5}},
	} {
		before := asked(1000, x.queue...)
		before.Links[1].Done = x.done
		p, _ := ended(t, before, 51)
		if got := told(t, p.Links[1].Out).Done; !slices.Equal(got, x.want) || len(p.Links[0].Done) != 0 {
			t.Errorf("Done is %v; want %v", got, x.want)
		}
		// With a line that refuses, Done stays.
		before.Links[1].Out.Closed = true
		p, _ = ended(t, before, 51)
		if got := p.Links[1].Done; !slices.Equal(got, x.want) {
			t.Errorf("Done is %v; want %v", got, x.want)
		}
	}
}

// P7.6: a Double burns from its Id on, or from the consumer's Base on, and buries; the meter has no say.
func TestDouble(t *testing.T) {
	for _, x := range []struct{ c, id, burnt int }{
		{0, 1, 42 + 3}, {0, 4, 42 + 3}, {0, 8, 42 + 3}, {0, 9, 42}, {0, api.MaxTime, 42},
		{1, 1, 42 + 3}, {1, 7, 42 + 3}, {1, 8, 42 + 3}, {1, 9, 42},
	} {
		before := asked(-5, api.Asked{C: x.c, P: double(x.id, 1)})
		p, _ := ended(t, before, 51)
		at := p.Stake.Validators[1]
		if at != (api.Validator{Tokens: 813, Shares: 900, Lost: 50 + x.burnt, Jailed: true, Dead: true}) {
			t.Errorf("a Double from %d on: %+v", x.id, at)
		}
		if p.Stake.Waits[2].Amount != 60+42-x.burnt || p.Stake.Waits[0].Amount != 95 || p.Meter != before.Meter {
			t.Errorf("a Double from %d on: %+v, %+v", x.id, p.Stake.Waits, p.Meter)
		}
		if len(p.Queue) != 0 || len(told(t, p.Links[x.c].Out).Done) != 0 {
			t.Errorf("a Double from %d on: %+v", x.id, p)
		}
	}
}

// P7.6: from Base on, if that is greater; a wait of the height Base itself burns.
func TestDoubleReachesBackToBase(t *testing.T) {
	for _, x := range []struct{ base, id, of6, of10 int }{
		{0, 1, 6, 2}, {5, 1, 6, 2}, {6, 1, 6, 2}, {7, 1, 0, 2}, {9, 1, 0, 2},
		{0, 6, 6, 2}, {0, 7, 0, 2}, {6, 7, 0, 2}, {7, 6, 0, 2}, {9, 10, 0, 2}, {9, 11, 0, 0}, {0, 11, 0, 0},
	} {
		before := asked(2, api.Asked{C: 0, P: double(x.id, 0)})
		before.Links[0].Base = x.base
		p, _ := ended(t, before, 51)
		at := p.Stake.Validators[0]
		if at.Lost != 50+x.of6+x.of10 || p.Stake.Waits[1].Amount != 120-x.of6 || p.Stake.Waits[3].Amount != 40-x.of10 {
			t.Errorf("a Double from %d on, with the base %d: %+v, %+v", x.id, x.base, at, p.Stake.Waits)
		}
	}
}

// P7.6: who is dead is not burnt again; who is jailed, or has nothing, is buried.
func TestDoubleOfOthers(t *testing.T) {
	before := asked(2, api.Asked{C: 0, P: double(1, 2)})
	want := calm()
	want.Height, want.Time = 10, 51
	p, e := end(t, before, 51)
	check(t, "a Double of who is dead", p, e, want, api.OK)
	p, _ = ended(t, asked(2, api.Asked{C: 0, P: double(5, 1)}, api.Asked{C: 1, P: double(5, 1)}), 51)
	if p.Stake.Validators[1].Lost != 50+45 || len(p.Queue) != 0 {
		t.Errorf("a Double of both: %+v", p.Stake.Validators[1])
	}
	for _, v := range []int{3, 4} {
		p, _ := ended(t, asked(0, api.Asked{C: 1, P: double(1, v)}), 51)
		if at := p.Stake.Validators[v]; !at.Dead || !at.Jailed || at.Lost != at.Shares/20 {
			t.Errorf("a Double of %d: %+v", v, at)
		}
	}
}

// P7.8: what waits stays, and all of the same consumer behind it; the other one's packets are dealt with.
func TestTheQueueKeepsItsOrder(t *testing.T) {
	queue := []api.Asked{
		{C: 0, P: matured(3)},
		{C: 0, P: down(0)},
		{C: 1, P: double(8, 1)},
		{C: 0, P: double(1, 3)},
		{C: 1, P: matured(6)},
		{C: 0, P: matured(6)},
		{C: 1, P: down(5)},
		{C: 0, P: down(4)},
		{C: 1, P: matured(10)},
		{C: 1, P: down(1)},
	}
	before := asked(0, queue...)
	p, _ := ended(t, before, 51)
	left := []api.Asked{queue[1], queue[3], queue[5], queue[6], queue[7], queue[8], queue[9]}
	if !reflect.DeepEqual(p.Queue, left) {
		t.Errorf("%+v waits; want %+v", p.Queue, left)
	}
	var got [][api.Consumers]int
	for _, w := range p.Stake.Waits {
		got = append(got, w.Holds)
	}
	if !reflect.DeepEqual(got, [][api.Consumers]int{holds(0, 0), holds(6, 0), holds(0, 0), holds(10, 10)}) {
		t.Errorf("held: %v", got)
	}
	if at := p.Stake.Validators; at[0].Jailed || at[5].Jailed || at[3].Dead || !at[1].Dead || len(p.Links[0].Done) != 0 {
		t.Errorf("%+v", at)
	}
	// The meter is full again: 10 power of the set's 10 are jailed by the first, nothing is left for the other one.
	p, _ = ended(t, p, 55)
	if !reflect.DeepEqual(p.Queue, []api.Asked{queue[6], queue[8], queue[9]}) || !p.Stake.Validators[0].Jailed || p.Stake.Validators[5].Jailed || !p.Stake.Validators[3].Dead {
		t.Errorf("later: %+v", p)
	}
	// Validator 1 is dead, and costs nothing.
	p, paid := ended(t, p, 70)
	if len(p.Queue) != 0 || !slices.Equal(paid, []int{1, 3, 4}) || p.Meter.Left != 0 || !p.Stake.Validators[5].Jailed {
		t.Errorf("at last: %+v, %v", p, paid)
	}
}

// P7.8: one consumer's Down that waits does not hold up the other's, but the meter does.
func TestWhoWaitsHoldsUpItselfAlone(t *testing.T) {
	p, _ := ended(t, asked(1, api.Asked{C: 0, P: down(0)}, api.Asked{C: 0, P: down(1)}, api.Asked{C: 1, P: down(0)}, api.Asked{C: 1, P: matured(6)}), 51)
	// Validator 0 is jailed by the first; that it was is told both.
	if !reflect.DeepEqual(p.Queue, []api.Asked{{C: 0, P: down(1)}}) || p.Stake.Waits[1].Holds != holds(6, 0) {
		t.Errorf("%+v", p)
	}
	for c := range p.Links {
		if got := told(t, p.Links[c].Out).Done; !slices.Equal(got, []int{0}) {
			t.Errorf("%d is told of %v", c, got)
		}
	}
}

// P7.8: a consumer is told if the set is another one, or it is Fresh, or Done has any.
func TestTell(t *testing.T) {
	for _, x := range []struct {
		what   string
		change func(p *api.Provider, link *api.Link)
		set    []api.Power
		done   []int
	}{
		{"Fresh", func(p *api.Provider, link *api.Link) { link.Fresh = true }, nil, nil},
		{"Done", func(p *api.Provider, link *api.Link) { link.Done = []int{2, 4} }, nil, []int{2, 4}},
		{"nothing told", func(p *api.Provider, link *api.Link) { link.Told = nil }, []api.Power{{V: 0, N: 10}, {V: 1, N: 8}}, nil},
		{"a power", func(p *api.Provider, link *api.Link) { link.Told = []api.Power{{V: 0, N: 9}, {V: 1, N: 8}} }, []api.Power{{V: 0, N: 10}}, nil},
		{"one more", func(p *api.Provider, link *api.Link) { link.Told = []api.Power{{V: 1, N: 8}} }, []api.Power{{V: 0, N: 10}}, nil},
		{"one less", func(p *api.Provider, link *api.Link) {
			link.Told = []api.Power{{V: 0, N: 10}, {V: 1, N: 8}, {V: 5, N: 3}}
		}, []api.Power{{V: 5, N: 0}}, nil},
		{"all of it", func(p *api.Provider, link *api.Link) {
			link.Told, link.Fresh, link.Done = []api.Power{{V: 0, N: 8}, {V: 2, N: 10}}, true, []int{0}
		}, []api.Power{{V: 0, N: 10}, {V: 1, N: 8}, {V: 2, N: 0}}, []int{0}},
	} {
		for c := range api.Consumers {
			before := calm()
			x.change(&before, &before.Links[c])
			want := calm()
			want.Height, want.Time = 10, 53
			out := &want.Links[c].Out
			out.Said = append(out.Said, text(t, api.Packet{Kind: api.Change, Id: 10, Set: x.set, Done: x.done}))
			out.Due = append(out.Due, 93)
			p, e := end(t, before, 53)
			check(t, x.what, p, e, want, api.OK)
		}
	}
}

// P7.8: the set that is told is that behind the queue and the stake of this block, not that of the last one.
func TestTheSetOfThisBlock(t *testing.T) {
	p, _ := provider.Delegate(calm(), 0, 3, 1500)
	p, _ = provider.Undelegate(p, 2, 1, 100, 52)
	p, _ = provider.Hear(p, 1, text(t, down(0)))
	p, _ = ended(t, p, 53)
	set := []api.Power{{V: 1, N: 7}, {V: 3, N: 15}}
	if !slices.Equal(p.Set, set) || p.Links[0].Fresh || p.Links[1].Fresh {
		t.Errorf("the set: %v", p.Set)
	}
	for c, done := range [][]int{nil, {0}} {
		want := api.Packet{Kind: api.Change, Id: 10, Set: []api.Power{{V: 0, N: 0}, {V: 1, N: 7}, {V: 3, N: 15}}, Done: done}
		if got := told(t, p.Links[c].Out); !reflect.DeepEqual(got, want) || !slices.Equal(p.Links[c].Told, set) {
			t.Errorf("%d is told %+v; want %+v", c, got, want)
		}
	}
	again, _ := ended(t, p, 54)
	if !reflect.DeepEqual(again.Links, p.Links) {
		t.Errorf("what is told is told once: %+v", again.Links)
	}
}

// P7.8: who is not on is told nothing, and its link stays as it was.
func TestWhoIsNotOnIsNotTold(t *testing.T) {
	for _, gone := range []bool{false, true} {
		before := calm()
		before.Links[0].On, before.Links[0].Gone = false, gone
		before.Links[0].Told, before.Links[0].Fresh, before.Links[0].Done = nil, true, []int{3}
		before.Links[1].Fresh = true
		p, _ := ended(t, before, 51)
		if !reflect.DeepEqual(p.Links[0], before.Links[0]) || len(p.Links[1].Out.Said) != 2 {
			t.Errorf("%+v", p.Links)
		}
	}
}

// P7.8: if the line refuses, nothing of that, and the other consumer is told all the same.
func TestALineThatRefuses(t *testing.T) {
	for _, out := range []api.Line{said(api.MaxSaid), {Closed: true}} {
		before := calm()
		for c := range before.Links {
			link := &before.Links[c]
			link.Told, link.Fresh, link.Done = []api.Power{{V: 3, N: 7}}, true, []int{0}
		}
		before.Links[0].Out = out
		p, e := end(t, before, 51)
		if e != api.OK || p.Height != 10 || !reflect.DeepEqual(p.Links[0], before.Links[0]) {
			t.Errorf("End: %+v, %d", p.Links[0], e)
		}
		if link := p.Links[1]; len(link.Out.Said) != 2 || link.Fresh || len(link.Done) != 0 || !slices.Equal(link.Told, p.Set) {
			t.Errorf("End: %+v", link)
		}
	}
	last := calm()
	last.Links[0].Out, last.Links[0].Fresh = said(api.MaxSaid-1), true
	p, _ := ended(t, last, 51)
	if len(p.Links[0].Out.Said) != api.MaxSaid || p.Links[0].Fresh {
		t.Errorf("the last packet of a line: %+v", p.Links[0])
	}
}

// P7.2 to P7.8: examples 1 to 4 of the document.
func TestAChain(t *testing.T) {
	p, _ := provider.Delegate(provider.New(), 0, 0, 700)
	p, _ = ended(t, p, 1)
	if !slices.Equal(p.Set, []api.Power{{V: 0, N: 7}}) {
		t.Errorf("the first set: %v", p.Set)
	}
	p, e := provider.Begin(p, 0)
	if e != api.OK || !slices.Equal(p.Links[0].Told, p.Set) {
		t.Errorf("Begin: %+v, %d", p.Links[0], e)
	}
	p, _ = provider.Undelegate(p, 0, 0, 300, 2)
	p, _ = ended(t, p, 3)
	want := api.Packet{Kind: api.Change, Id: 2, Set: []api.Power{{V: 0, N: 4}}}
	if got := told(t, p.Links[0].Out); !reflect.DeepEqual(got, want) {
		t.Errorf("%+v is told", got)
	}
	if _, paid := ended(t, p, 30); len(paid) != 0 {
		t.Errorf("%v is paid, though it is held", paid)
	}
	removed, paid := ended(t, provider.Remove(p, 0), 30)
	if !slices.Equal(paid, []int{1}) || removed.Stake.Bank.Free[0] != 99600 {
		t.Errorf("%v is paid, when the consumer is gone", paid)
	}
	p, _ = provider.Hear(p, 0, text(t, double(1, 0)))
	p, _ = provider.Hear(p, 0, text(t, matured(2)))
	p, paid = ended(t, p, 30)
	if p.Stake.Validators[0] != (api.Validator{Tokens: 380, Shares: 400, Lost: 35, Jailed: true, Dead: true}) || len(p.Set) != 0 {
		t.Errorf("who signed twice: %+v", p.Stake.Validators[0])
	}
	if !slices.Equal(paid, []int{1}) || p.Stake.Bank.Free[0] != 99300+285 {
		t.Errorf("%v is paid: %+v", paid, p.Stake.Bank)
	}
}
