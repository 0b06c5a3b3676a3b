package consumer_test

import (
	"math"
	"slices"
	"testing"

	"suzerain/api"
	"suzerain/consumer"
)

// P8.2: the packet stands last; nothing else changes until the block's end.
func TestHear(t *testing.T) {
	for _, packet := range []api.Packet{
		change(12, []api.Power{{V: 0, N: 9}}), change(1, nil), change(api.MaxTime, nil, 0, 5), change(9, allSix(0), 0, 1, 2, 3, 4, 5),
		change(12, allSix(api.MaxAmount)), change(12, []api.Power{{V: 5, N: 0}}, 3),
	} {
		for _, before := range []api.Consumer{
			mixed(), calm(), consumer.Begin(nil, 0, 0), with(func(c *api.Consumer) { c.Out.Closed = true }),
			with(func(c *api.Consumer) { c.Out = said(api.MaxSaid) }),
		} {
			want := before
			want.Pending = append(slices.Clone(before.Pending), packet)
			c, e := consumer.Hear(before, text(t, packet))
			check(t, "Hear", c, e, want, api.OK)
			if !consumer.Good(c) {
				t.Errorf("Hear: %+v is not good", c)
			}
		}
	}
}

// P8.2: the same packet may stand there again and again, in the order of its coming.
func TestHearInOrder(t *testing.T) {
	c := calm()
	var want []api.Packet
	for i := range 500 {
		p := change(1+i%7, []api.Power{{V: i % 6, N: i}})
		want = append(want, p)
		after, e := consumer.Hear(c, text(t, p))
		if e != api.OK {
			t.Fatalf("Hear: %d", e)
		}
		c = after
	}
	check(t, "Hear", c, api.OK, calmWith(func(c *api.Consumer) { c.Pending = want }), api.OK)
}

// P8.2: each error, and which one comes first.
func TestHearErrors(t *testing.T) {
	good := text(t, change(5, []api.Power{{V: 1, N: 3}}, 2))
	quiet := text(t, matured(5))
	noId := "\x00\x00\x00\x00\x00\x00"
	for _, x := range []struct {
		s    string
		code api.Errno
	}{
		{"", api.ErrForm}, {"no packet", api.ErrForm}, {good + "\x00", api.ErrForm}, {good[1:], api.ErrForm}, {good[:20], api.ErrForm},
		{quiet + "\x00", api.ErrForm}, {quiet[:16], api.ErrForm}, {"\x05" + good[1:], api.ErrKind}, {"\x00" + good[1:], api.ErrKind},
		{good[:1] + noId + good[7:], api.ErrRange}, {quiet[:1] + noId + quiet[7:], api.ErrRange}, {good[:len(good)-1] + "\x06", api.ErrRange},
		{"\x02" + good[1:], api.ErrForm}, {good[:7] + "\x01" + good[8:], api.ErrForm},
		{quiet, api.ErrKind}, {text(t, down(5, 1, 3)), api.ErrKind}, {text(t, double(5, 1, 3)), api.ErrKind},
	} {
		for _, before := range []api.Consumer{mixed(), calm()} {
			c, e := consumer.Hear(before, x.s)
			check(t, "Hear", c, e, before, x.code)
		}
	}
}

// P8.3, P8.5: the packet has the chain's Id and the validator's power in its set; it is too late 40 ticks behind now.
func TestDown(t *testing.T) {
	for _, x := range []struct{ v, n, now int }{{2, 3, 50}, {5, 1, 50}, {2, 3, 0}, {2, 3, 49}, {5, 1, 77}, {5, 1, api.MaxTime}} {
		want := mixed()
		want.Flags[x.v] = true
		want.Out = saying(t, want.Out, x.now+40, down(8, x.v, x.n))
		c, e := consumer.Down(mixed(), x.v, x.now)
		check(t, "Down", c, e, want, api.OK)
		again, e := consumer.Down(c, x.v, x.now)
		check(t, "Down again", again, e, c, api.ErrTwice)
	}
	great := consumer.Begin(allSix(api.MaxAmount), api.MaxTime, 0)
	for v := range api.Validators {
		want := consumer.Begin(allSix(api.MaxAmount), api.MaxTime, 0)
		want.Flags[v] = true
		want.Out = saying(t, want.Out, 43, down(api.MaxTime, v, api.MaxAmount))
		c, e := consumer.Down(great, v, 3)
		check(t, "Down of the greatest", c, e, want, api.OK)
	}
}

// P8.5: who waits to be taken in, or out, is not yet in the set, or not yet out of it.
func TestDownGoesByTheSet(t *testing.T) {
	c, e := consumer.Down(mixed(), 1, 50)
	check(t, "Down of who comes", c, e, mixed(), api.ErrNone)
	c, e = consumer.Down(mixed(), 2, 50)
	if e != api.OK || c.Out.Said[2] != text(t, down(8, 2, 3)) {
		t.Errorf("Down of who goes: %+v, %d", c, e)
	}
}

// P8.5: each error, and which one comes first.
func TestDownErrors(t *testing.T) {
	full := with(func(c *api.Consumer) { c.Out = said(api.MaxSaid) })
	shut := with(func(c *api.Consumer) { c.Out.Closed = true })
	young := with(func(c *api.Consumer) { c.Id = 0 })
	youngShut := with(func(c *api.Consumer) { c.Id, c.Out.Closed = 0, true })
	both := with(func(c *api.Consumer) { c.Out = said(api.MaxSaid); c.Out.Closed = true })
	for _, x := range []struct {
		before api.Consumer
		v      int
		code   api.Errno
	}{
		{mixed(), 1, api.ErrNone}, {mixed(), 3, api.ErrNone}, {mixed(), 4, api.ErrNone}, {mixed(), 0, api.ErrTwice},
		{full, 1, api.ErrNone}, {full, 3, api.ErrNone}, {full, 0, api.ErrTwice}, {full, 2, api.ErrFull}, {full, 5, api.ErrFull},
		{shut, 1, api.ErrNone}, {shut, 3, api.ErrNone}, {shut, 0, api.ErrTwice}, {shut, 2, api.ErrGone}, {both, 2, api.ErrGone},
		{young, 1, api.ErrNone}, {young, 0, api.ErrTwice}, {young, 2, api.ErrRange}, {youngShut, 2, api.ErrRange},
		{consumer.Begin(nil, 4, 7), 0, api.ErrNone},
	} {
		c, e := consumer.Down(x.before, x.v, 50)
		check(t, "Down", c, e, x.before, x.code)
		for _, v := range noValidators() {
			c, e := consumer.Down(x.before, v, 50)
			check(t, "Down of no validator", c, e, x.before, api.ErrNone)
		}
		for _, now := range noTimes() {
			c, e := consumer.Down(x.before, x.v, now)
			check(t, "Down at no time", c, e, x.before, api.ErrRange)
		}
	}
	last := with(func(c *api.Consumer) { c.Out = said(api.MaxSaid - 1) })
	c, e := consumer.Down(last, 2, 50)
	want := last
	want.Flags[2] = true
	want.Out = saying(t, last.Out, 90, down(8, 2, 3))
	check(t, "Down, the last packet of a line", c, e, want, api.OK)
}

// P8.5: who was dealt with may be told down again.
func TestDownBehindDone(t *testing.T) {
	c, _ := consumer.Hear(calm(), text(t, change(9, nil, 0, 2)))
	if _, e := consumer.Down(c, 0, 50); e != api.ErrTwice {
		t.Errorf("Down ahead of the block's end: %d", e)
	}
	c = ended(t, c, 50)
	c, e := consumer.Down(c, 0, 51)
	want := calm()
	want.Height, want.Id = 7, 9
	want.Ripes = append(want.Ripes, api.Ripe{Id: 9, Due: 65})
	want.Out = saying(t, want.Out, 91, down(9, 0, 7))
	check(t, "Down behind Done", c, e, want, api.OK)
}

// P8.3, P8.6: the packet has the id that is told and the validator's power in the set; 1, if it has none. Nobody is
// flagged by it, and who is flagged may be told of.
func TestDouble(t *testing.T) {
	for _, x := range []struct{ v, n int }{{0, 7}, {1, 1}, {2, 3}, {3, 1}, {4, 1}, {5, 1}} {
		for _, id := range []int{1, 4, 7, 8} {
			for _, now := range []int{0, 49, 50, 77, api.MaxTime} {
				want := mixed()
				want.Out = saying(t, want.Out, now+40, double(id, x.v, x.n))
				c, e := consumer.Double(mixed(), x.v, id, now)
				check(t, "Double", c, e, want, api.OK)
				// Nothing is said of doing it but once.
				want.Out = saying(t, want.Out, now+40, double(id, x.v, x.n))
				c, e = consumer.Double(c, x.v, id, now)
				check(t, "Double again", c, e, want, api.OK)
			}
		}
	}
	great := consumer.Begin(allSix(api.MaxAmount), api.MaxTime, 0)
	want := great
	want.Out = saying(t, want.Out, 43, double(api.MaxTime, 5, api.MaxAmount))
	c, e := consumer.Double(great, 5, api.MaxTime, 3)
	check(t, "Double of the greatest", c, e, want, api.OK)
}

// P8.6: each error, and which one comes first.
func TestDoubleErrors(t *testing.T) {
	full := with(func(c *api.Consumer) { c.Out = said(api.MaxSaid) })
	shut := with(func(c *api.Consumer) { c.Out.Closed = true })
	young := with(func(c *api.Consumer) { c.Id = 0 })
	for _, before := range []api.Consumer{mixed(), full, shut, young} {
		wrong := []int{math.MinInt, -1, 0, before.Id + 1, 1 << 50, math.MaxInt}
		for _, id := range append(wrong, 1, 8) {
			for _, v := range noValidators() {
				c, e := consumer.Double(before, v, id, 50)
				check(t, "Double of no validator", c, e, before, api.ErrNone)
			}
			for _, now := range noTimes() {
				c, e := consumer.Double(before, id, id, now)
				check(t, "Double at no time", c, e, before, api.ErrRange)
			}
		}
		for _, id := range wrong {
			for v := range api.Validators {
				c, e := consumer.Double(before, v, id, 50)
				check(t, "Double of no height", c, e, before, api.ErrRange)
			}
		}
	}
	for v := range api.Validators {
		c, e := consumer.Double(full, v, 8, 50)
		check(t, "Double on a full line", c, e, full, api.ErrFull)
		c, e = consumer.Double(shut, v, 1, 50)
		check(t, "Double on a closed line", c, e, shut, api.ErrGone)
	}
	last := with(func(c *api.Consumer) { c.Out = said(api.MaxSaid - 1) })
	want := last
	want.Out = saying(t, last.Out, 90, double(3, 3, 1))
	c, e := consumer.Double(last, 3, 3, 50)
	check(t, "Double, the last packet of a line", c, e, want, api.OK)
}

// P8.7: all else stays.
func TestRemove(t *testing.T) {
	for _, before := range []api.Consumer{mixed(), calm(), consumer.Begin(allSix(1), 4, 7), with(func(c *api.Consumer) { c.Out.Closed = true })} {
		want := before
		want.On, want.Gone, want.Out.Closed = false, true, true
		c := consumer.Remove(before)
		check(t, "Remove", c, api.OK, want, api.OK)
		if !consumer.Good(c) {
			t.Errorf("Remove: %+v is not good", c)
		}
		check(t, "Remove again", consumer.Remove(c), api.OK, want, api.OK)
	}
}

// P8.7: as it was, if it is not on.
func TestRemoveOfWhoIsNotOn(t *testing.T) {
	for _, before := range []api.Consumer{
		{}, {Gone: true}, with(func(c *api.Consumer) { c.On = false }), with(func(c *api.Consumer) { c.On, c.Gone = false, true }),
	} {
		check(t, "Remove", consumer.Remove(before), api.OK, before, api.OK)
	}
}

// P8.7: that a chain is not good is no matter.
func TestRemoveOfABadChain(t *testing.T) {
	for name, bad := range badChains() {
		want := bad
		want.On, want.Gone, want.Out.Closed = false, true, true
		check(t, "Remove of "+name, consumer.Remove(bad), api.OK, want, api.OK)
		bad.On = false
		check(t, "Remove of who is not on, "+name, consumer.Remove(bad), api.OK, bad, api.OK)
	}
}
