package consumer_test

import (
	"math"
	"slices"
	"testing"

	"suzerain/api"
	"suzerain/codec"
	"suzerain/consumer"
	"suzerain/provider"
)

// P8.4: a block without news: the height, the time, and nothing else.
func TestEndOfACalmBlock(t *testing.T) {
	for _, now := range []int{50, 51, 59} {
		c, e := consumer.End(calm(), now)
		check(t, "End", c, e, calmWith(func(c *api.Consumer) { c.Height, c.Time = 7, now }), api.OK)
	}
	want := consumer.Begin(allSix(2), 4, 0)
	want.Height, want.Time = 1, api.MaxTime
	c, e := consumer.End(consumer.Begin(allSix(2), 4, 0), api.MaxTime)
	check(t, "the first block", c, e, want, api.OK)
}

// P8.4: all that a block's end does, at once.
func TestEnd(t *testing.T) {
	for _, x := range []struct {
		now   int
		said  []api.Packet
		ripes []api.Ripe
	}{
		{50, []api.Packet{matured(5), matured(6)}, []api.Ripe{{Id: 8, Due: 60}, {Id: 9, Due: 65}, {Id: 11, Due: 65}}},
		{59, []api.Packet{matured(5), matured(6)}, []api.Ripe{{Id: 8, Due: 60}, {Id: 9, Due: 74}, {Id: 11, Due: 74}}},
		{60, []api.Packet{matured(5), matured(6), matured(8)}, []api.Ripe{{Id: 9, Due: 75}, {Id: 11, Due: 75}}},
		{api.MaxTime, []api.Packet{matured(5), matured(6), matured(8)}, []api.Ripe{{Id: 9, Due: api.MaxTime + 15}, {Id: 11, Due: api.MaxTime + 15}}},
	} {
		want := mixed()
		want.Height, want.Time, want.Id = 7, x.now, 11
		want.Set = []api.Power{{V: 0, N: 9}, {V: 1, N: 4}, {V: 5, N: 1}}
		want.Pending, want.Ripes, want.Flags = nil, x.ripes, flags(3)
		want.Out = saying(t, want.Out, x.now+40, x.said...)
		c, e := consumer.End(mixed(), x.now)
		check(t, "End", c, e, want, api.OK)
	}
}

// P8.4: a wrong now.
func TestEndErrors(t *testing.T) {
	for _, before := range []api.Consumer{mixed(), calm()} {
		for _, now := range append(noTimes(), 0, 48, 49) {
			c, e := consumer.End(before, now)
			check(t, "End", c, e, before, api.ErrRange)
		}
	}
	late := with(func(c *api.Consumer) { c.Time = api.MaxTime })
	for _, now := range []int{api.MaxTime - 1, api.MaxTime + 1, 60} {
		c, e := consumer.End(late, now)
		check(t, "End", c, e, late, api.ErrRange)
	}
	if c, e := consumer.End(late, api.MaxTime); e != api.OK || c.Time != api.MaxTime || c.Height != 7 {
		t.Errorf("End at MaxTime: %+v, %d", c, e)
	}
}

// P8.4: the last block that a chain can end; it is no good one any more.
func TestTheLastBlock(t *testing.T) {
	c, e := consumer.End(with(func(c *api.Consumer) { c.Height = api.MaxTime - 1 }), 60)
	if e != api.OK || c.Height != api.MaxTime || consumer.Good(c) || c.Id != 11 || len(c.Out.Said) != 5 {
		t.Errorf("End: %+v, %d", c, e)
	}
	again, e := consumer.End(c, 61)
	check(t, "End behind the last block", again, e, c, api.ErrRange)
}

// P8.4: the changes are taken in one by one, each of them by the set that the one ahead of it left.
func TestPending(t *testing.T) {
	for _, x := range []struct {
		what    string
		pending []api.Packet
		id      int
		set     []api.Power
		flagged []int
	}{
		{"nothing", nil, 8, []api.Power{{V: 0, N: 7}, {V: 2, N: 3}, {V: 5, N: 1}}, []int{0, 3}},
		{"a change of nothing", []api.Packet{change(9, nil)}, 9, []api.Power{{V: 0, N: 7}, {V: 2, N: 3}, {V: 5, N: 1}}, []int{0, 3}},
		{"one more", []api.Packet{change(9, []api.Power{{V: 4, N: 2}})}, 9, []api.Power{{V: 0, N: 7}, {V: 2, N: 3}, {V: 4, N: 2}, {V: 5, N: 1}}, []int{0, 3}},
		{"another power", []api.Packet{change(9, []api.Power{{V: 2, N: 4}})}, 9, []api.Power{{V: 0, N: 7}, {V: 2, N: 4}, {V: 5, N: 1}}, []int{0, 3}},
		{"one less", []api.Packet{change(9, []api.Power{{V: 0, N: 0}})}, 9, []api.Power{{V: 2, N: 3}, {V: 5, N: 1}}, []int{0, 3}},
		{"who is not there goes", []api.Packet{change(9, []api.Power{{V: 1, N: 0}})}, 9, []api.Power{{V: 0, N: 7}, {V: 2, N: 3}, {V: 5, N: 1}}, []int{0, 3}},
		{"nobody any more", []api.Packet{change(9, allSix(0))}, 9, nil, []int{0, 3}},
		{"all", []api.Packet{change(9, allSix(api.MaxAmount))}, 9, allSix(api.MaxAmount), []int{0, 3}},
		{"to and fro", []api.Packet{change(9, allSix(6)), change(10, allSix(0)), change(11, []api.Power{{V: 1, N: 2}})}, 11, []api.Power{{V: 1, N: 2}}, []int{0, 3}},
		{"the later power", []api.Packet{change(9, []api.Power{{V: 2, N: 4}}), change(10, []api.Power{{V: 2, N: 5}})}, 10, []api.Power{{V: 0, N: 7}, {V: 2, N: 5}, {V: 5, N: 1}}, []int{0, 3}},
		{"an Id that falls", []api.Packet{change(9, nil), change(3, nil)}, 3, []api.Power{{V: 0, N: 7}, {V: 2, N: 3}, {V: 5, N: 1}}, []int{0, 3}},
		{"done", []api.Packet{change(9, nil, 0)}, 9, []api.Power{{V: 0, N: 7}, {V: 2, N: 3}, {V: 5, N: 1}}, []int{3}},
		{"done, out of the set", []api.Packet{change(9, nil, 3, 4)}, 9, []api.Power{{V: 0, N: 7}, {V: 2, N: 3}, {V: 5, N: 1}}, []int{0}},
		{"done, one by one", []api.Packet{change(9, nil, 3), change(9, nil, 0)}, 9, []api.Power{{V: 0, N: 7}, {V: 2, N: 3}, {V: 5, N: 1}}, nil},
		{"all are done", []api.Packet{change(9, nil, 0, 1, 2, 3, 4, 5)}, 9, []api.Power{{V: 0, N: 7}, {V: 2, N: 3}, {V: 5, N: 1}}, nil},
		{"who goes stays flagged", []api.Packet{change(9, []api.Power{{V: 0, N: 0}}, 2)}, 9, []api.Power{{V: 2, N: 3}, {V: 5, N: 1}}, []int{0, 3}},
	} {
		want := calm()
		want.Height, want.Time, want.Id, want.Set, want.Flags = 7, 53, x.id, x.set, flags(x.flagged...)
		for _, p := range x.pending {
			want.Ripes = append(want.Ripes, api.Ripe{Id: p.Id, Due: 68})
		}
		c, e := consumer.End(calmWith(func(c *api.Consumer) { c.Pending = x.pending }), 53)
		check(t, x.what, c, e, want, api.OK)
	}
}

// P8.4: from the first ripe on, as long as it is due; what is behind one that is not due stays, be it due or not.
func TestRipes(t *testing.T) {
	for _, x := range []struct {
		ripes []api.Ripe
		said  []int
	}{
		{nil, nil},
		{[]api.Ripe{{Id: 3, Due: 52}}, []int{3}},
		{[]api.Ripe{{Id: 3, Due: 53}}, []int{3}},
		{[]api.Ripe{{Id: 3, Due: 54}}, nil},
		{[]api.Ripe{{Id: 1, Due: 0}, {Id: api.MaxTime, Due: 0}}, []int{1, api.MaxTime}},
		{[]api.Ripe{{Id: 3, Due: 53}, {Id: 4, Due: 53}, {Id: 5, Due: 54}}, []int{3, 4}},
		{[]api.Ripe{{Id: 3, Due: 54}, {Id: 4, Due: 50}}, nil},
		{[]api.Ripe{{Id: 3, Due: 50}, {Id: 4, Due: 54}, {Id: 5, Due: 50}}, []int{3}},
		{[]api.Ripe{{Id: 9, Due: 53}, {Id: 2, Due: 51}, {Id: 2, Due: 52}}, []int{9, 2, 2}},
		{[]api.Ripe{{Id: 9, Due: math.MaxInt}}, nil},
	} {
		want := calm()
		want.Height, want.Time = 7, 53
		want.Ripes = x.ripes[len(x.said):]
		for _, id := range x.said {
			want.Out = saying(t, want.Out, 93, matured(id))
		}
		c, e := consumer.End(calmWith(func(c *api.Consumer) { c.Ripes = x.ripes }), 53)
		check(t, "End", c, e, want, api.OK)
	}
}

// P8.4: a change is said to be old enough 15 ticks behind the end of the block that took it in, and but once.
func TestAChangeRipens(t *testing.T) {
	c, _ := consumer.Hear(consumer.Begin(allSix(2), 4, 0), text(t, change(5, nil)))
	c = ended(t, c, 10)
	c, _ = consumer.Hear(c, text(t, change(6, nil)))
	c = ended(t, c, 11)
	for _, x := range []struct{ now, said int }{{11, 0}, {24, 0}, {25, 1}, {25, 1}, {26, 2}, {60, 2}} {
		if c = ended(t, c, x.now); len(c.Out.Said) != x.said || len(c.Ripes) != 2-x.said {
			t.Errorf("at %d: %+v", x.now, c)
		}
	}
	if want := saying(t, saying(t, api.Line{}, 65, matured(5)), 66, matured(6)); !slices.Equal(c.Out.Said, want.Said) || !slices.Equal(c.Out.Due, want.Due) {
		t.Errorf("%+v; want %+v", c.Out, want)
	}
}

// P8.4: what cannot be said stays, and the block ends all the same.
func TestALineThatRefuses(t *testing.T) {
	ripes := []api.Ripe{{Id: 5, Due: 48}, {Id: 6, Due: 50}, {Id: 8, Due: 50}}
	for _, x := range []struct {
		out  api.Line
		said []api.Packet
	}{
		{api.Line{Closed: true}, nil},
		{said(api.MaxSaid), nil},
		{said(api.MaxSaid - 1), []api.Packet{matured(5)}},
		{said(api.MaxSaid - 2), []api.Packet{matured(5), matured(6)}},
		{said(api.MaxSaid - 3), []api.Packet{matured(5), matured(6), matured(8)}},
	} {
		before := with(func(c *api.Consumer) { c.Out, c.Ripes = x.out, ripes })
		want := before
		want.Height, want.Time, want.Id = 7, 51, 11
		want.Set = []api.Power{{V: 0, N: 9}, {V: 1, N: 4}, {V: 5, N: 1}}
		want.Pending, want.Flags = nil, flags(3)
		want.Ripes = append(slices.Clone(ripes[len(x.said):]), api.Ripe{Id: 9, Due: 66}, api.Ripe{Id: 11, Due: 66})
		want.Out = saying(t, x.out, 91, x.said...)
		c, e := consumer.End(before, 51)
		check(t, "End", c, e, want, api.OK)
	}
}

// P8.4: lists far longer than a line is.
func TestManyChanges(t *testing.T) {
	const many = 100000
	c := consumer.Begin(nil, 0, 0)
	for i := range many {
		c.Pending = append(c.Pending, change(1+i, []api.Power{{V: i % 6, N: 1 + i}}))
		c.Ripes = append(c.Ripes, api.Ripe{Id: 1 + i, Due: 7})
	}
	c = ended(t, c, 7)
	if len(c.Out.Said) != api.MaxSaid || c.Id != many || len(c.Pending) != 0 || len(c.Set) != api.Validators {
		t.Errorf("%d are said, the Id is %d, %v", len(c.Out.Said), c.Id, c.Set)
	}
	if l := c.Ripes; len(l) != 2*many-api.MaxSaid || l[0].Id != 1+api.MaxSaid || l[len(l)-1] != (api.Ripe{Id: many, Due: 22}) {
		t.Errorf("%d are ripe", len(l))
	}
}

// carry carries all that is said, both ways, and nothing is lost.
func carry(t *testing.T, p *api.Provider, c *api.Consumer) {
	t.Helper()
	var e api.Errno
	for out := &p.Links[0].Out; out.Got < len(out.Said); out.Got++ {
		if *c, e = consumer.Hear(*c, out.Said[out.Got]); e != api.OK {
			t.Fatalf("the consumer hears: %d", e)
		}
	}
	for ; c.Out.Got < len(c.Out.Said); c.Out.Got++ {
		if *p, e = provider.Hear(*p, 0, c.Out.Said[c.Out.Got]); e != api.OK {
			t.Fatalf("the provider hears: %d", e)
		}
	}
}

// P8.1 to P8.6: examples 1 to 3 of the document, with the provider on the other side.
func TestWithAProvider(t *testing.T) {
	p, _ := provider.Delegate(provider.New(), 0, 0, 700)
	p, _ = provider.Delegate(p, 1, 3, 900)
	p, _, _ = provider.End(p, 1)
	p, _ = provider.Begin(p, 0)
	c := consumer.Begin(p.Set, p.Height, 1)
	p, _ = provider.Undelegate(p, 0, 0, 300, 2)
	p, _, _ = provider.End(p, 3)
	c, e := consumer.Down(c, 3, 3)
	if e != api.OK {
		t.Fatalf("Down: %d", e)
	}
	carry(t, &p, &c)
	if c = ended(t, c, 4); !slices.Equal(c.Set, []api.Power{{V: 0, N: 4}, {V: 3, N: 9}}) || c.Id != 2 || !c.Flags[3] {
		t.Errorf("the consumer is told: %+v", c)
	}
	p, _, _ = provider.End(p, 5)
	carry(t, &p, &c)
	if c = ended(t, c, 6); !slices.Equal(c.Set, []api.Power{{V: 0, N: 4}}) || c.Flags[3] {
		t.Errorf("who was down is jailed: %+v", c)
	}
	c, e = consumer.Double(c, 0, 1, 7)
	if packet, f := codec.Decode(c.Out.Said[1]); e != api.OK || f != api.OK || packet.N != 4 {
		t.Errorf("Double: %+v, %d", packet, e)
	}
	p, paid, _ := provider.End(p, 22)
	if len(paid) != 0 {
		t.Errorf("%v is paid, though it is held", paid)
	}
	c = ended(t, c, 22)
	carry(t, &p, &c)
	p, paid, _ = provider.End(p, 23)
	if at := p.Stake.Validators[0]; !slices.Equal(paid, []int{1}) || p.Stake.Bank.Free[0] != 99300+285 || !at.Dead || at.Lost != 35 {
		t.Errorf("%v is paid: %+v", paid, p.Stake)
	}
}
