package world_test

import (
	"math"
	"reflect"
	"slices"
	"testing"

	"suzerain/api"
	"suzerain/codec"
	"suzerain/world"
)

// The deeds, by what they take.

func delegate(d, v, n int) api.Deed { return api.Deed{Kind: api.DeedDelegate, D: d, V: v, N: n} }

func undelegate(d, v, n int) api.Deed { return api.Deed{Kind: api.DeedUndelegate, D: d, V: v, N: n} }

func unjail(v int) api.Deed { return api.Deed{Kind: api.DeedUnjail, V: v} }

func begin(c int) api.Deed { return api.Deed{Kind: api.DeedBegin, C: c} }

func tick(n int) api.Deed { return api.Deed{Kind: api.DeedTick, N: n} }

func provide() api.Deed { return api.Deed{Kind: api.DeedProvide} }

func consume(c int) api.Deed { return api.Deed{Kind: api.DeedConsume, C: c} }

func heads(c int) api.Deed { return api.Deed{Kind: api.DeedHeads, C: c} }

func deliver(c int) api.Deed { return api.Deed{Kind: api.DeedDeliver, C: c} }

func expire(c, n int) api.Deed { return api.Deed{Kind: api.DeedExpire, C: c, N: n} }

func down(c, v int) api.Deed { return api.Deed{Kind: api.DeedDown, C: c, V: v} }

func double(c, v, n int) api.Deed { return api.Deed{Kind: api.DeedDouble, C: c, V: v, N: n} }

func evidence(v, n int) api.Deed { return api.Deed{Kind: api.DeedEvidence, V: v, N: n} }

// back is a deed the other way round.
func back(d api.Deed) api.Deed {
	d.Back = true
	return d
}

func forged(d api.Deed) api.Deed {
	d.Forged = true
	return d
}

// doAll does deeds that all go well; what is told of the last one.
func doAll(t *testing.T, w *world.World, deeds ...api.Deed) int {
	t.Helper()
	n := 0
	for i, d := range deeds {
		r := w.Do(d)
		if r.Code != api.OK {
			t.Fatalf("deed %d of these, %+v: %+v", i, d, r)
		}
		n = r.N
	}
	return n
}

// made is a new world behind deeds that all go well.
func made(t *testing.T, deeds ...api.Deed) *world.World {
	t.Helper()
	w := world.New()
	doAll(t, w, deeds...)
	return w
}

// lent are deeds that make a world at 5 with two blocks, of the times 0 and 3, in which both consumers have begun:
// consumer 0 behind the first block, consumer 1 behind the second.
func lent() []api.Deed {
	return []api.Deed{
		delegate(0, 0, 700), delegate(1, 1, 300), delegate(2, 2, 950), provide(),
		begin(0), tick(3), delegate(3, 0, 1100), provide(), tick(2), begin(1),
	}
}

// busy are deeds that put something everywhere: changes that wait, ripes, flags, a queue, who is to be told of a
// downtime, unbondings that are held, and lines of several packets of which not all came.
func busy() []api.Deed {
	return append(lent(),
		undelegate(0, 0, 300), provide(), heads(0), deliver(0), consume(0), tick(1), undelegate(2, 2, 100),
		// Validator 1 is jailed by consumer 0, whose second packet finds the meter empty, and by consumer 1.
		down(0, 1), down(1, 1), consume(0), consume(1), back(heads(0)), back(deliver(0)), back(heads(1)), back(deliver(1)),
		provide(), down(0, 0), down(0, 2), consume(0), back(heads(0)), back(deliver(0)), tick(1),
		delegate(1, 3, 400), evidence(3, 1), provide(), heads(0), deliver(0), heads(1), deliver(1), consume(1), deliver(1), tick(1),
		undelegate(1, 1, 50), down(1, 2), double(1, 4, 2),
	)
}

// whole is all that a world answers of itself.
type whole struct {
	Clock     int
	Provider  api.Provider
	Consumers [api.Consumers]api.Consumer
}

func look(w *world.World) whole {
	all := whole{Clock: w.Clock(), Provider: w.Provider()}
	for i := range all.Consumers {
		all.Consumers[i] = w.Consumer(i)
	}
	return all
}

// shown are the heads between the provider and a consumer that is on, as a copy of the world tells them: its own
// deeds stay as many as they were.
func shown(t *testing.T, w *world.World, c int) (provider, consumer api.Head) {
	t.Helper()
	other := *w
	doAll(t, &other, heads(c), back(heads(c)))
	return other.Consumer(c).Seen, other.Provider().Links[c].Seen
}

// tidy is a list that is nil, if it has no elements.
func tidy[E any](l []E) []E {
	if len(l) == 0 {
		return nil
	}
	return slices.Clone(l)
}

func tidyPacket(packet api.Packet) api.Packet {
	packet.Set, packet.Done = tidy(packet.Set), tidy(packet.Done)
	return packet
}

func tidyLine(l api.Line) api.Line {
	l.Said, l.Due = tidy(l.Said), tidy(l.Due)
	return l
}

// tidyProvider and tidyConsumer are chains with lists of their own, nil where they have no elements.
func tidyProvider(p api.Provider) api.Provider {
	p.Stake.Waits, p.Set, p.Queue = tidy(p.Stake.Waits), tidy(p.Set), tidy(p.Queue)
	for i := range p.Queue {
		p.Queue[i].P = tidyPacket(p.Queue[i].P)
	}
	for c := range p.Links {
		link := &p.Links[c]
		link.Told, link.Done, link.Out = tidy(link.Told), tidy(link.Done), tidyLine(link.Out)
	}
	return p
}

func tidyConsumer(c api.Consumer) api.Consumer {
	c.Set, c.Ripes, c.Pending, c.Out = tidy(c.Set), tidy(c.Ripes), tidy(c.Pending), tidyLine(c.Out)
	for i := range c.Pending {
		c.Pending[i] = tidyPacket(c.Pending[i])
	}
	return c
}

func (a whole) tidy() whole {
	a.Provider = tidyProvider(a.Provider)
	for i := range a.Consumers {
		a.Consumers[i] = tidyConsumer(a.Consumers[i])
	}
	return a
}

// same is whether two worlds are alike; nil or not is no matter.
func same(a, b whole) bool {
	return reflect.DeepEqual(a.tidy(), b.tidy())
}

// check does a deed, and looks whether what is told of it, and the world behind it, is as wanted: as it was, but for
// what a change makes of it.
func check(t *testing.T, w *world.World, d api.Deed, want api.Reply, change func(a *whole)) {
	t.Helper()
	then := look(w).tidy()
	if change != nil {
		change(&then)
	}
	if r := w.Do(d); r != want {
		t.Errorf("%+v: %+v; want %+v", d, r, want)
	}
	if now := look(w); !same(now, then) {
		t.Errorf("%+v makes\n%+v; want\n%+v", d, now.tidy(), then)
	}
}

// refuses looks whether a deed is refused, and the world stays as it was, of the copy of which no deed is done.
func refuses(t *testing.T, w *world.World, d api.Deed, code api.Errno) {
	t.Helper()
	other := *w
	check(t, &other, d, api.Reply{Code: code}, nil)
	for c := range api.Consumers {
		if !w.Consumer(c).On {
			continue
		}
		p, q := shown(t, w, c)
		if a, b := shown(t, &other, c); a != p || b != q {
			t.Errorf("%+v: the heads %+v, %+v become %+v, %+v", d, p, q, a, b)
		}
	}
}

// text is a packet's bytes.
func text(t *testing.T, packet api.Packet) string {
	t.Helper()
	s, e := codec.Encode(packet)
	if e != api.OK {
		t.Fatalf("%v cannot be encoded: %d", packet, e)
	}
	return s
}

// noConsumers and noKinds are numbers of none.
func noConsumers() []int {
	return []int{math.MinInt, -api.Consumers, -1, api.Consumers, api.Consumers + 1, 1 << 32, math.MaxInt}
}

func noKinds() []int { return []int{math.MinInt, -1, 0, 14, 15, 256, math.MaxInt} }

// kinds are all thirteen.
func kinds() []int {
	return []int{
		api.DeedDelegate, api.DeedUndelegate, api.DeedUnjail, api.DeedBegin, api.DeedTick, api.DeedProvide, api.DeedConsume,
		api.DeedHeads, api.DeedDeliver, api.DeedExpire, api.DeedDown, api.DeedDouble, api.DeedEvidence,
	}
}

// kindsOfOn are those that want a consumer that is on.
func kindsOfOn() []int {
	return []int{api.DeedConsume, api.DeedHeads, api.DeedDeliver, api.DeedExpire, api.DeedDown, api.DeedDouble}
}
