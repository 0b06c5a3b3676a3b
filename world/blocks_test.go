package world_test

import (
	"testing"

	"suzerain/api"
	"suzerain/consumer"
	"suzerain/provider"
	"suzerain/world"
)

// P9.3: End of the provider by the clock, whatever else stands in the deed.
func TestProvide(t *testing.T) {
	for _, deeds := range [][]api.Deed{nil, {tick(9)}, {delegate(0, 0, 700), tick(1)}, lent(), busy(), append(busy(), tick(25)), jailed()} {
		w := made(t, deeds...)
		p, paid, e := provider.End(w.Provider(), w.Clock())
		if e != api.OK {
			t.Fatalf("End: %d", e)
		}
		check(t, w, api.Deed{Kind: api.DeedProvide, C: -1, D: -1, V: -1, N: -1, Back: true, Forged: true}, api.Reply{N: len(paid)}, func(a *whole) { a.Provider = p })
		if p.Time != w.Clock() {
			t.Errorf("the block's time is %d, at %d", p.Time, w.Clock())
		}
	}
}

// P9.3: N is how many unbondings were paid, of those that are due and held by nobody.
func TestProvidePays(t *testing.T) {
	w := made(t, delegate(0, 0, 700), provide(), undelegate(0, 0, 100), undelegate(0, 0, 50), tick(5), undelegate(0, 0, 30), tick(14))
	for _, x := range []struct{ ticks, paid, waiting int }{{0, 0, 180}, {1, 2, 30}, {0, 0, 30}, {4, 0, 30}, {1, 1, 0}, {9, 0, 0}} {
		if x.ticks > 0 {
			doAll(t, w, tick(x.ticks))
		}
		if n, left := doAll(t, w, provide()), w.Provider().Stake.Bank.Waiting; n != x.paid || left != x.waiting {
			t.Errorf("at %d: %d paid, %d wait; want %d, %d", w.Clock(), n, left, x.paid, x.waiting)
		}
	}
}

// P9.3: the provider's head for each consumer: what was said to that one, and what came of that one.
func TestProvidersHeads(t *testing.T) {
	w := made(t, lent()...)
	wantHeads := func(what string, to0, to1 api.Head) {
		t.Helper()
		a, _ := shown(t, w, 0)
		b, _ := shown(t, w, 1)
		if a != to0 || b != to1 {
			t.Errorf("%s: %+v, %+v; want %+v, %+v", what, a, b, to0, to1)
		}
	}
	// Consumer 0 began behind block 1, and was told of block 2; consumer 1 began behind that.
	wantHeads("at first", api.Head{Height: 2, Time: 3, Said: 1}, api.Head{})
	doAll(t, w, undelegate(0, 0, 100), tick(1), provide())
	wantHeads("told", api.Head{Height: 3, Time: 6, Said: 2}, api.Head{Height: 3, Time: 6, Said: 1})
	// What comes, or is begun, behind a block is not in its head.
	doAll(t, w, double(0, 5, 1), double(0, 5, 1), double(1, 5, 1), consume(0), consume(1), back(heads(0)), back(heads(1)),
		back(deliver(0)), back(deliver(0)), back(deliver(1)), tick(2), undelegate(0, 0, 100))
	wantHeads("not yet", api.Head{Height: 3, Time: 6, Said: 2}, api.Head{Height: 3, Time: 6, Said: 1})
	doAll(t, w, provide())
	wantHeads("then", api.Head{Height: 4, Time: 8, Said: 3, Got: 2}, api.Head{Height: 4, Time: 8, Said: 2, Got: 1})
	doAll(t, w, provide())
	wantHeads("a quiet block", api.Head{Height: 5, Time: 8, Said: 3, Got: 2}, api.Head{Height: 5, Time: 8, Said: 2, Got: 1})
}

// P9.4: the consumer begins with the provider's set, its height, and the clock; N is the height.
func TestBegin(t *testing.T) {
	for _, x := range []struct {
		c     int
		deeds []api.Deed
	}{
		{0, []api.Deed{delegate(0, 0, 700), provide()}},
		{1, []api.Deed{delegate(0, 0, 700), provide(), provide(), tick(8)}},
		{1, []api.Deed{delegate(0, 0, 700), provide(), tick(8), undelegate(0, 0, 300)}},
		{0, []api.Deed{delegate(0, 0, 700), delegate(1, 3, 300), tick(4), provide(), begin(1), undelegate(0, 0, 300), tick(4), provide(), undelegate(0, 0, 100), tick(4)}},
	} {
		w := made(t, x.deeds...)
		before := w.Provider()
		p, e := provider.Begin(before, x.c)
		if e != api.OK {
			t.Fatalf("Begin: %d", e)
		}
		d := api.Deed{Kind: api.DeedBegin, C: x.c, D: -1, V: -1, N: -1, Back: true, Forged: true}
		check(t, w, d, api.Reply{N: before.Height}, func(a *whole) {
			a.Provider, a.Consumers[x.c] = p, consumer.Begin(before.Set, before.Height, a.Clock)
		})
		if c := w.Consumer(x.c); c.Time != w.Clock() || c.Id != before.Height || len(c.Set) == 0 {
			t.Errorf("begun: %+v", c)
		}
	}
}

// P9.4: both heads between them are 0, how many blocks there may have been ahead; those of another consumer stay.
func TestBeginHeads(t *testing.T) {
	w := made(t, append(lent()[:9], heads(0), consume(0), back(heads(0)))...)
	first, second := shown(t, w, 0)
	doAll(t, w, begin(1))
	if p, c := shown(t, w, 1); p != (api.Head{}) || c != (api.Head{}) {
		t.Errorf("the heads of who has begun: %+v, %+v", p, c)
	}
	if p, c := shown(t, w, 0); p != first || c != second || p.Height != 2 || c.Height != 1 {
		t.Errorf("the heads of the other one: %+v, %+v", p, c)
	}
	if p, c := w.Provider().Links[1].Seen, w.Consumer(1).Seen; p != (api.Head{}) || c != (api.Head{}) {
		t.Errorf("who has begun has seen %+v, %+v", p, c)
	}
}

// P9.4: each error of the provider; and there is no such consumer, which comes first.
func TestBeginErrors(t *testing.T) {
	worlds := []*world.World{world.New(), made(t, delegate(0, 0, 700)), made(t, provide(), provide()), made(t, busy()...)}
	for _, w := range worlds {
		for _, c := range noConsumers() {
			refuses(t, w, begin(c), api.ErrNone)
		}
	}
	for _, w := range worlds[:3] {
		refuses(t, w, begin(0), api.ErrEarly)
		refuses(t, w, begin(1), api.ErrEarly)
	}
	refuses(t, worlds[3], begin(0), api.ErrTwice)
	refuses(t, worlds[3], begin(1), api.ErrTwice)
	// A set that came to nothing.
	emptied := made(t, delegate(0, 0, 700), provide(), undelegate(0, 0, 700), provide())
	refuses(t, emptied, begin(0), api.ErrEarly)
	gone := made(t, append(lent(), tick(50), consume(0), back(heads(0)), expire(0, 1))...)
	refuses(t, gone, begin(0), api.ErrGone)
	refuses(t, gone, begin(1), api.ErrTwice)
}

// P9.3 to P9.7: a consumer that is none, is nothing yet, or is gone, ahead of all else that is wrong.
func TestNoSuchConsumer(t *testing.T) {
	gone := made(t, append(lent(), tick(50), consume(0), back(heads(0)), expire(0, 1))...)
	one := made(t, lent()[:9]...)
	for _, kind := range kindsOfOn() {
		for _, n := range numbers() {
			for _, d := range []api.Deed{{Kind: kind, V: n, N: n}, {Kind: kind, V: n, N: n, Back: true}, {Kind: kind, V: n, N: n, Forged: true}} {
				refuses(t, world.New(), d, api.ErrNone)
				refuses(t, gone, d, api.ErrNone)
				d.C = 1
				refuses(t, one, d, api.ErrNone)
				for _, d.C = range noConsumers() {
					refuses(t, one, d, api.ErrNone)
					refuses(t, gone, d, api.ErrNone)
				}
			}
		}
	}
}

// P9.4: End of the consumer by the clock.
func TestConsume(t *testing.T) {
	for _, deeds := range [][]api.Deed{lent(), busy(), append(busy(), tick(25))} {
		for i := range api.Consumers {
			w := made(t, deeds...)
			c, e := consumer.End(w.Consumer(i), w.Clock())
			if e != api.OK {
				t.Fatalf("End: %d", e)
			}
			d := api.Deed{Kind: api.DeedConsume, C: i, D: -1, V: -1, N: -1, Back: true, Forged: true}
			check(t, w, d, api.Reply{}, func(a *whole) { a.Consumers[i] = c })
			if c.Time != w.Clock() {
				t.Errorf("the block's time is %d, at %d", c.Time, w.Clock())
			}
		}
	}
}

// P9.4: the consumer's head: what it said, and what came of the provider's line to it.
func TestConsumersHead(t *testing.T) {
	w := made(t, append(lent(), undelegate(0, 0, 100), provide(), heads(0), heads(1))...)
	wantHeads := func(what string, of0, of1 api.Head) {
		t.Helper()
		_, a := shown(t, w, 0)
		_, b := shown(t, w, 1)
		if a != of0 || b != of1 {
			t.Errorf("%s: %+v, %+v; want %+v, %+v", what, a, b, of0, of1)
		}
	}
	wantHeads("at first", api.Head{}, api.Head{})
	doAll(t, w, tick(1), consume(0))
	wantHeads("a block of one", api.Head{Height: 1, Time: 6}, api.Head{})
	// What comes and is said behind a block is not in its head.
	doAll(t, w, deliver(0), deliver(0), deliver(1), double(0, 5, 1), double(1, 5, 1), double(1, 5, 1), down(1, 0), tick(2))
	wantHeads("not yet", api.Head{Height: 1, Time: 6}, api.Head{})
	doAll(t, w, consume(1))
	wantHeads("a block of the other", api.Head{Height: 1, Time: 6}, api.Head{Height: 1, Time: 8, Said: 3, Got: 1})
	doAll(t, w, consume(0))
	wantHeads("then", api.Head{Height: 2, Time: 8, Said: 1, Got: 2}, api.Head{Height: 1, Time: 8, Said: 3, Got: 1})
	// A Matured that the block's end says is in its head.
	doAll(t, w, tick(15), consume(0))
	wantHeads("ripe", api.Head{Height: 3, Time: 23, Said: 3, Got: 2}, api.Head{Height: 1, Time: 8, Said: 3, Got: 1})
}
