package world_test

import (
	"math"
	"testing"

	"suzerain/api"
	"suzerain/codec"
	"suzerain/consumer"
	"suzerain/line"
	"suzerain/provider"
	"suzerain/world"
)

// P9.5: the consumer has seen the provider's head, as of its last block; with Back the other way round.
func TestHeads(t *testing.T) {
	w := made(t, append(lent(), consume(0), tick(1), undelegate(0, 0, 100), provide(), tick(1), double(0, 5, 1), double(0, 5, 1), consume(0), tick(1))...)
	d := api.Deed{Kind: api.DeedHeads, C: 0, D: -1, V: -1, N: -1, Forged: true}
	check(t, w, d, api.Reply{}, func(a *whole) { a.Consumers[0].Seen = api.Head{Height: 3, Time: 6, Said: 2} })
	check(t, w, d, api.Reply{}, nil)
	check(t, w, back(d), api.Reply{}, func(a *whole) { a.Provider.Links[0].Seen = api.Head{Height: 2, Time: 7, Said: 2} })
	check(t, w, back(d), api.Reply{}, nil)
	// Of blocks that came since nothing is seen until it is shown again.
	check(t, w, provide(), api.Reply{}, func(a *whole) { a.Provider.Height, a.Provider.Time = 4, 8 })
	check(t, w, d, api.Reply{}, func(a *whole) { a.Consumers[0].Seen = api.Head{Height: 4, Time: 8, Said: 2} })
	check(t, w, consume(1), api.Reply{}, func(a *whole) { a.Consumers[1].Height, a.Consumers[1].Time = 1, 8 })
	check(t, w, back(heads(1)), api.Reply{}, func(a *whole) { a.Provider.Links[1].Seen = api.Head{Height: 1, Time: 8} })
	check(t, w, heads(1), api.Reply{}, func(a *whole) { a.Consumers[1].Seen = api.Head{Height: 4, Time: 8, Said: 1} })
}

// asOfConsumer looks whether a deed is what a call on a consumer makes of it, of a copy of the world.
func asOfConsumer(t *testing.T, w *world.World, d api.Deed, call func(c api.Consumer) (api.Consumer, api.Errno)) {
	t.Helper()
	c, e := call(w.Consumer(d.C))
	if e != api.OK {
		refuses(t, w, d, e)
		return
	}
	other := *w
	check(t, &other, d, api.Reply{}, func(a *whole) { a.Consumers[d.C] = c })
}

// P9.5: as of the consumer, now the clock.
func TestDown(t *testing.T) {
	for _, w := range []*world.World{made(t, lent()...), made(t, busy()...)} {
		for _, n := range numbers() {
			for c := range api.Consumers {
				d := api.Deed{Kind: api.DeedDown, C: c, V: n, D: n, N: n, Back: true, Forged: true}
				asOfConsumer(t, w, d, func(at api.Consumer) (api.Consumer, api.Errno) { return consumer.Down(at, n, w.Clock()) })
			}
		}
	}
	w := made(t, append(lent(), tick(4), down(1, 0))...)
	c := w.Consumer(1)
	if !c.Flags[0] || len(c.Out.Said) != 1 || c.Out.Said[0] != text(t, api.Packet{Kind: api.Down, Id: 2, V: 0, N: 18}) || c.Out.Due[0] != 49 {
		t.Errorf("Down: %+v", c)
	}
	refuses(t, w, down(1, 0), api.ErrTwice)
	refuses(t, w, down(1, 3), api.ErrNone)
	refuses(t, w, down(1, 6), api.ErrNone)
}

// P9.5: N is the id.
func TestDouble(t *testing.T) {
	for _, w := range []*world.World{made(t, lent()...), made(t, busy()...)} {
		for _, n := range numbers() {
			for c := range api.Consumers {
				for _, d := range []api.Deed{double(c, n, 1), double(c, 2, n), double(c, 5, n)} {
					d.D, d.Back, d.Forged = n, true, true
					asOfConsumer(t, w, d, func(at api.Consumer) (api.Consumer, api.Errno) { return consumer.Double(at, d.V, d.N, w.Clock()) })
				}
			}
		}
	}
	w := made(t, append(lent(), tick(4), double(1, 2, 1))...)
	c := w.Consumer(1)
	if len(c.Out.Said) != 1 || c.Out.Said[0] != text(t, api.Packet{Kind: api.Double, Id: 1, V: 2, N: 9}) || c.Out.Due[0] != 49 {
		t.Errorf("Double: %+v", c)
	}
	refuses(t, w, double(1, 2, 3), api.ErrRange)
	refuses(t, w, double(1, 2, 0), api.ErrRange)
	refuses(t, w, double(1, 6, 0), api.ErrNone)
}

// P9.5: a consumer's line that is full.
func TestFullLine(t *testing.T) {
	w := made(t, lent()...)
	for range api.MaxSaid {
		doAll(t, w, double(0, 0, 1))
	}
	refuses(t, w, double(0, 0, 1), api.ErrFull)
	refuses(t, w, down(0, 0), api.ErrFull)
	doAll(t, w, double(1, 0, 1))
}

// P9.6: the packets come in their order, each once, as far as the receiver knows that they were said; N is how many
// have come.
func TestDeliver(t *testing.T) {
	w := made(t, append(lent(), undelegate(0, 0, 100), provide())...)
	refuses(t, w, deliver(0), api.ErrProof)
	doAll(t, w, heads(0), undelegate(0, 0, 50), provide())
	for k := 1; k <= 2; k++ {
		packet, e := codec.Decode(w.Provider().Links[0].Out.Said[k-1])
		if e != api.OK || packet.Id != k+1 {
			t.Fatalf("packet %d: %+v, %d", k, packet, e)
		}
		d := api.Deed{Kind: api.DeedDeliver, D: -1, V: -1, N: -1}
		check(t, w, d, api.Reply{N: k}, func(a *whole) {
			a.Provider.Links[0].Out.Got = k
			a.Consumers[0].Pending = append(a.Consumers[0].Pending, packet)
		})
	}
	// There is a third one, but the consumer has not seen the block that said it.
	refuses(t, w, deliver(0), api.ErrProof)
	doAll(t, w, heads(0))
	if n := doAll(t, w, deliver(0)); n != 3 {
		t.Errorf("Deliver: %d", n)
	}
	refuses(t, w, deliver(0), api.ErrProof)
	refuses(t, w, forged(deliver(0)), api.ErrProof)
	refuses(t, w, deliver(1), api.ErrProof)
}

// P9.6: the same with Back, by what the provider has seen.
func TestDeliverBack(t *testing.T) {
	w := made(t, append(lent(), down(0, 1), double(0, 2, 1), consume(0))...)
	refuses(t, w, back(deliver(0)), api.ErrProof)
	doAll(t, w, back(heads(0)), down(0, 0), consume(0))
	for k := 1; k <= 2; k++ {
		packet, e := codec.Decode(w.Consumer(0).Out.Said[k-1])
		if e != api.OK {
			t.Fatalf("packet %d: %d", k, e)
		}
		d := api.Deed{Kind: api.DeedDeliver, D: -1, V: -1, N: -1, Back: true}
		check(t, w, d, api.Reply{N: k}, func(a *whole) {
			a.Consumers[0].Out.Got = k
			a.Provider.Queue = append(a.Provider.Queue, api.Asked{C: 0, P: packet})
		})
	}
	refuses(t, w, back(deliver(0)), api.ErrProof)
	doAll(t, w, back(heads(0)))
	if n := doAll(t, w, back(deliver(0))); n != 3 {
		t.Errorf("Deliver: %d", n)
	}
	refuses(t, w, back(deliver(0)), api.ErrProof)
	refuses(t, w, back(forged(deliver(0))), api.ErrProof)
	refuses(t, w, back(deliver(1)), api.ErrProof)
	// Of consumer 1, too, it is its own packet.
	doAll(t, w, double(1, 4, 2), consume(1), back(heads(1)))
	check(t, w, back(deliver(1)), api.Reply{N: 1}, func(a *whole) {
		a.Consumers[1].Out.Got = 1
		a.Provider.Queue = append(a.Provider.Queue, api.Asked{C: 1, P: api.Packet{Kind: api.Double, Id: 2, V: 4, N: 1}})
	})
}

// P9.6: by the clock, not by a block's time: a packet comes up to the last tick ahead of its Due.
func TestDeliverLate(t *testing.T) {
	for _, x := range []struct {
		ticks int
		code  api.Errno
	}{{38, api.OK}, {39, api.OK}, {40, api.ErrLate}, {41, api.ErrLate}, {4000, api.ErrLate}} {
		w := made(t, append(lent(), undelegate(0, 0, 100), provide(), heads(1), double(1, 0, 1), consume(1), back(heads(1)), tick(x.ticks))...)
		for _, d := range []api.Deed{deliver(1), back(deliver(1))} {
			refuses(t, w, forged(d), api.ErrProof)
			if x.code != api.OK {
				refuses(t, w, d, x.code)
			} else if n := doAll(t, w, d); n != 1 {
				t.Errorf("%+v: %d", d, n)
			}
		}
	}
	// What the receiver does not know of comes ahead of what is late.
	w := made(t, append(lent(), undelegate(0, 0, 100), provide(), double(1, 0, 1), consume(1), tick(40))...)
	refuses(t, w, deliver(1), api.ErrProof)
	refuses(t, w, back(deliver(1)), api.ErrProof)
}

// P9.6: a forged packet does not come, and the true one behind it does.
func TestForged(t *testing.T) {
	w := made(t, append(lent(), undelegate(0, 0, 100), provide(), heads(0), down(0, 1), double(0, 0, 1), consume(0), back(heads(0)))...)
	for _, d := range []api.Deed{deliver(0), back(deliver(0)), deliver(0), back(deliver(0))} {
		refuses(t, w, forged(d), api.ErrProof)
		doAll(t, w, d)
	}
}

// P9.6: the forged text is a Down of validator 0, at height 1, of a power that is one more than the text has bytes. If
// that is what was said, it comes: a Down has 17 bytes.
func TestForgedButTrue(t *testing.T) {
	for _, x := range []struct {
		tokens int
		code   api.Errno
	}{{1700, api.ErrProof}, {1800, api.OK}, {1899, api.OK}, {1900, api.ErrProof}} {
		w := made(t, delegate(0, 0, x.tokens), delegate(0, 1, 1800), provide(), begin(0), down(0, 0), consume(0), back(heads(0)))
		d := forged(back(deliver(0)))
		if x.code != api.OK {
			refuses(t, w, d, x.code)
			continue
		}
		check(t, w, d, api.Reply{N: 1}, func(a *whole) {
			a.Consumers[0].Out.Got = 1
			a.Provider.Queue = []api.Asked{{C: 0, P: api.Packet{Kind: api.Down, Id: 1, V: 0, N: 18}}}
		})
	}
	// Of another kind, height or validator it is another text.
	for _, d := range []api.Deed{double(0, 0, 1), down(0, 1)} {
		w := made(t, delegate(0, 0, 1800), delegate(0, 1, 1800), provide(), begin(0), d, consume(0), back(heads(0)))
		refuses(t, w, forged(back(deliver(0))), api.ErrProof)
	}
	w := made(t, delegate(0, 0, 1800), provide(), provide(), begin(0), down(0, 0), consume(0), back(heads(0)))
	refuses(t, w, forged(back(deliver(0))), api.ErrProof)
}

// lateTo are deeds that make a world at 60 in which two packets to consumer 1 are too late at 45 and 50.
func lateTo() []api.Deed {
	return append(lent(), undelegate(0, 0, 100), provide(), tick(5), undelegate(2, 2, 100), provide(), tick(50))
}

// lateBack is the same of two packets of consumer 1.
func lateBack() []api.Deed {
	return append(lent(), undelegate(0, 0, 100), double(1, 0, 1), tick(5), double(1, 5, 1), tick(50))
}

// checkExpire looks whether a deed ends a consumer on both sides.
func checkExpire(t *testing.T, w *world.World, d api.Deed) {
	t.Helper()
	check(t, w, d, api.Reply{}, func(a *whole) {
		a.Provider = provider.Remove(a.Provider, d.C)
		a.Consumers[d.C] = consumer.Remove(a.Consumers[d.C])
	})
	p, c := w.Provider(), w.Consumer(d.C)
	link := p.Links[d.C]
	if link.On || !link.Gone || !link.Out.Closed || c.On || !c.Gone || !c.Out.Closed {
		t.Errorf("%+v: %+v, %+v", d, link, c)
	}
	for _, wait := range p.Stake.Waits {
		if wait.Holds[d.C] != 0 {
			t.Errorf("%+v is held by who is gone", wait)
		}
	}
	if w.Do(d) != (api.Reply{Code: api.ErrNone}) {
		t.Errorf("%+v is done twice", d)
	}
}

// P9.7: by the time of the consumer's head that the provider has seen, not by the clock.
func TestExpire(t *testing.T) {
	for k := 1; k <= 2; k++ {
		w := made(t, lateTo()...)
		d := api.Deed{Kind: api.DeedExpire, C: 1, D: -1, V: -1, N: k, Forged: true}
		refuses(t, w, d, api.ErrEarly)
		doAll(t, w, consume(1))
		refuses(t, w, d, api.ErrEarly)
		doAll(t, w, heads(1))
		refuses(t, w, d, api.ErrEarly)
		doAll(t, w, back(heads(1)))
		checkExpire(t, w, d)
		if !w.Consumer(0).On || !w.Provider().Links[0].On {
			t.Error("the other consumer is gone, too")
		}
	}
}

// P9.7: with Back of its own line, by the provider's head that it has seen.
func TestExpireBack(t *testing.T) {
	for k := 1; k <= 2; k++ {
		w := made(t, lateBack()...)
		d := api.Deed{Kind: api.DeedExpire, C: 1, D: -1, V: -1, N: k, Back: true, Forged: true}
		refuses(t, w, d, api.ErrEarly)
		doAll(t, w, provide())
		refuses(t, w, d, api.ErrEarly)
		doAll(t, w, consume(1), back(heads(1)))
		refuses(t, w, d, api.ErrEarly)
		doAll(t, w, heads(1))
		checkExpire(t, w, d)
	}
}

// P9.7: there is no such packet.
func TestExpireNone(t *testing.T) {
	to := made(t, append(lateTo(), consume(1), back(heads(1)))...)
	from := made(t, append(lateBack(), provide(), heads(1))...)
	for _, n := range []int{math.MinInt, -1, 0, 3, 4, api.MaxSaid, api.MaxSaid + 1, math.MaxInt} {
		refuses(t, to, expire(1, n), api.ErrNone)
		refuses(t, from, back(expire(1, n)), api.ErrNone)
	}
	refuses(t, to, back(expire(1, 1)), api.ErrNone)
	// Of the line to the other consumer there are three: one more was said to it.
	refuses(t, to, expire(0, 3), api.ErrEarly)
	refuses(t, to, expire(0, 4), api.ErrNone)
}

// P9.7: who has come by the head that the sender has seen is not late.
func TestExpireTwice(t *testing.T) {
	w := made(t, append(lent(), undelegate(0, 0, 100), provide(), tick(5), undelegate(2, 2, 100), provide(), heads(1), deliver(1), consume(1), tick(50))...)
	// Seen is a head of a time that is early, with one packet.
	doAll(t, w, back(heads(1)))
	refuses(t, w, expire(1, 1), api.ErrTwice)
	refuses(t, w, expire(1, 2), api.ErrEarly)
	doAll(t, w, consume(1))
	refuses(t, w, expire(1, 2), api.ErrEarly)
	doAll(t, w, back(heads(1)))
	refuses(t, w, expire(1, 1), api.ErrTwice)
	checkExpire(t, w, expire(1, 2))
}

// P9.7: the same with Back.
func TestExpireTwiceBack(t *testing.T) {
	w := made(t, append(lent(), double(1, 0, 1), double(1, 0, 1), consume(1), back(heads(1)), back(deliver(1)))...)
	// Came, but is in no block's head yet.
	doAll(t, w, heads(1))
	refuses(t, w, back(expire(1, 1)), api.ErrEarly)
	doAll(t, w, provide(), heads(1))
	refuses(t, w, back(expire(1, 1)), api.ErrTwice)
	doAll(t, w, tick(40), provide(), heads(1))
	refuses(t, w, back(expire(1, 1)), api.ErrTwice)
	checkExpire(t, w, back(expire(1, 2)))
}

// P9.7: just at its Due a packet is too late.
func TestExpireEdge(t *testing.T) {
	for _, x := range []struct {
		ticks int
		code  api.Errno
	}{{39, api.ErrEarly}, {40, api.OK}, {41, api.OK}} {
		w := made(t, append(lent(), undelegate(0, 0, 100), provide(), double(1, 0, 1), tick(x.ticks), consume(1), back(heads(1)), provide(), heads(1))...)
		for _, d := range []api.Deed{expire(1, 1), back(expire(1, 1))} {
			other := *w
			if r := other.Do(d); r != (api.Reply{Code: x.code}) {
				t.Errorf("%+v behind %d ticks: %+v", d, x.ticks, r)
			}
		}
	}
}

// P9.7: what is handed to Expire is what the sender has seen, whichever line it is.
func TestExpireAsOfTheLine(t *testing.T) {
	for _, deeds := range [][]api.Deed{busy(), append(busy(), tick(60), provide(), heads(0), heads(1), consume(0), consume(1), back(heads(0)), back(heads(1)))} {
		w := made(t, deeds...)
		for c := range api.Consumers {
			for k := range 6 {
				link, at := w.Provider().Links[c], w.Consumer(c)
				_, to := line.Expire(link.Out, k, link.Seen.Time, link.Seen.Got)
				_, from := line.Expire(at.Out, k, at.Seen.Time, at.Seen.Got)
				for _, x := range []struct {
					d    api.Deed
					code api.Errno
				}{{expire(c, k), to}, {back(expire(c, k)), from}} {
					other := *w
					if r := other.Do(x.d); r != (api.Reply{Code: x.code}) {
						t.Errorf("%+v: %+v; want %d", x.d, r, x.code)
					}
				}
			}
		}
	}
}
