package world_test

import (
	"math"
	"math/rand/v2"
	"slices"
	"testing"

	"suzerain/api"
	"suzerain/bank"
	"suzerain/codec"
	"suzerain/consumer"
	"suzerain/provider"
	"suzerain/world"
)

// Whatever is done to a world, its chains are good ones, and can rely on each other.
func FuzzDeeds(f *testing.F) {
	f.Add([]byte{1, 0, 9, 6, 0, 0, 4, 0, 0, 2, 0, 3, 6, 0, 0, 8, 0, 0, 9, 0, 0, 7, 0, 0, 5, 0, 20, 6, 0, 0, 7, 0, 0, 8, 64, 0, 9, 64, 0, 6, 0, 0})
	f.Add([]byte{1, 0, 9, 6, 0, 0, 4, 1, 0, 12, 1, 1, 5, 0, 45, 6, 0, 0, 8, 1, 0, 10, 65, 1, 4, 1, 0, 13, 0, 1, 3, 0, 0, 0, 0, 0, 9, 200, 0})
	f.Fuzz(func(t *testing.T, b []byte) {
		var deeds []api.Deed
		for ; len(b) >= 3; b = b[3:] {
			deeds = append(deeds, deedOf(b[0], b[1], b[2]))
		}
		walk(t, deeds)
	})
}

// deedOf is a deed made of three bytes: mostly one that can be done.
func deedOf(kind, who, n byte) api.Deed {
	d := api.Deed{
		Kind: int(kind % 15), C: int(who % 3), D: int(who / 3 % 5), V: int(who / 3 % 7), N: int(n),
		Back: who&64 != 0, Forged: who&128 != 0,
	}
	switch d.Kind {
	case api.DeedDelegate:
		d.N *= 100
	case api.DeedUndelegate:
		d.N *= 10
	case api.DeedTick:
		d.N %= 8
	}
	return d
}

// The same of long walks, in which all that happens is likely.
func TestWalks(t *testing.T) {
	r := rand.New(rand.NewPCG(9, 27))
	seen := map[api.Errno]int{}
	for i := range 60 {
		var deeds []api.Deed
		for range 620 {
			deeds = append(deeds, likely(r, i))
		}
		for _, reply := range walk(t, deeds) {
			seen[reply.Code]++
		}
	}
	for _, code := range []api.Errno{api.OK, api.ErrRange, api.ErrKind, api.ErrNone, api.ErrTwice, api.ErrFull, api.ErrFunds, api.ErrProof, api.ErrGone, api.ErrLate, api.ErrEarly, api.ErrDead} {
		if seen[code] == 0 {
			t.Errorf("no walk came to %d", code)
		}
	}
}

// likely is a deed; in some walks carriers are slow, so that packets come to be late.
func likely(r *rand.Rand, walk int) api.Deed {
	kind := r.IntN(22)
	if kind >= 14 {
		// Blocks end and packets go about more often than anything else happens.
		kind = []int{api.DeedProvide, api.DeedConsume, api.DeedHeads, api.DeedDeliver}[kind%4]
	}
	if kind == api.DeedExpire && r.IntN(4) > 0 || kind == api.DeedEvidence && r.IntN(6) > 0 {
		kind = api.DeedTick
	}
	d := deedOf(byte(kind), byte(r.IntN(256)), byte(r.IntN(40)))
	if d.C == 2 && r.IntN(9) > 0 {
		d.C = 0
	}
	if d.Kind == api.DeedDouble && r.IntN(4) > 0 {
		d.Kind = api.DeedDown
	}
	if d.Kind == api.DeedTick {
		d.N = r.IntN(3 + walk%3*10)
	}
	d.Forged = d.Forged && r.IntN(4) == 0
	return d
}

// walk does deeds to a new world, and looks at it behind each of them; what was told.
func walk(t *testing.T, deeds []api.Deed) []api.Reply {
	w := world.New()
	before := look(w)
	// What the provider's set was at each height.
	sets := [][]api.Power{nil}
	var replies []api.Reply
	for i, d := range deeds {
		r := w.Do(d)
		after := look(w)
		if r.Code != api.OK && (r.N != 0 || !same(before, after)) || i >= api.MaxDeeds && r.Code != api.ErrFull {
			t.Fatalf("deed %d, %+v: %+v; %+v becomes %+v", i, d, r, before, after)
		}
		if after.Provider.Height > before.Provider.Height {
			sets = append(sets, after.Provider.Set)
		}
		checkWorld(t, after, sets)
		if r.Code == api.OK {
			checkStep(t, d, r.N, before, after)
		}
		before, replies = after, append(replies, r)
	}
	if len(deeds) <= api.MaxDeeds {
		if l, e := world.Run(deeds); !slices.Equal(l, replies) || e != api.OK {
			t.Fatalf("Run: %v, %d; want %v", l, e, replies)
		}
	}
	return replies
}

// checkWorld is what holds of a world at any time.
func checkWorld(t *testing.T, a whole, sets [][]api.Power) {
	t.Helper()
	p := a.Provider
	if !provider.Good(p) || bank.Sum(p.Stake.Bank) != api.Delegators*api.Grant || p.Time > a.Clock || p.Height != len(sets)-1 {
		t.Fatalf("the provider: %+v at %d", p, a.Clock)
	}
	for i, c := range a.Consumers {
		link := p.Links[i]
		if !consumer.Good(c) || c.On != link.On || c.Gone != link.Gone || c.Time > a.Clock {
			t.Fatalf("consumer %d: %+v, %+v at %d", i, c, link, a.Clock)
		}
		if !c.On {
			continue
		}
		// The provider knows what set a consumer has by the height that it tells.
		if !slices.Equal(c.Set, sets[c.Id]) {
			t.Fatalf("consumer %d: %+v; of height %d: %v", i, c, c.Id, sets[c.Id])
		}
		if seen := link.Seen; seen.Height > c.Height || seen.Time > c.Time || seen.Said > len(c.Out.Said) || seen.Got > link.Out.Got {
			t.Fatalf("of consumer %d more is seen than is: %+v, %+v", i, seen, c)
		}
		if seen := c.Seen; seen.Height > p.Height || seen.Time > p.Time || seen.Said > len(link.Out.Said) || seen.Got > c.Out.Got {
			t.Fatalf("consumer %d has seen more than is: %+v, %+v", i, seen, p)
		}
	}
}

// checkStep is what holds of a deed that was done.
func checkStep(t *testing.T, d api.Deed, n int, before, after whole) {
	t.Helper()
	switch d.Kind {
	case api.DeedTick:
		if n != after.Clock || n != before.Clock+d.N {
			t.Fatalf("%+v: %d, from %d to %d", d, n, before.Clock, after.Clock)
		}
	case api.DeedProvide:
		checkPaid(t, n, before, after)
	case api.DeedDeliver:
		checkDelivered(t, d, n, before, after)
	case api.DeedExpire:
		// A packet that came is never shown to have come too late.
		if _, l := lineOf(before, d.C, d.Back); d.N <= l.Got || l.Due[d.N-1] > before.Clock || after.Consumers[d.C].On {
			t.Fatalf("%+v of %+v", d, l)
		}
	}
	if d.Kind != api.DeedTick && after.Clock != before.Clock {
		t.Fatalf("%+v: from %d to %d", d, before.Clock, after.Clock)
	}
}

// lineOf is how much waits with the receiver of a line, and the line.
func lineOf(a whole, c int, back bool) (int, api.Line) {
	if back {
		return len(a.Provider.Queue), a.Consumers[c].Out
	}
	return len(a.Consumers[c].Pending), a.Provider.Links[c].Out
}

// checkPaid is that whoever unstakes waits until all consumers that could lean on the stake have a later set.
func checkPaid(t *testing.T, n int, before, after whole) {
	t.Helper()
	paid := 0
	for _, w := range before.Provider.Stake.Waits {
		if slices.ContainsFunc(after.Provider.Stake.Waits, func(x api.Wait) bool { return x.Number == w.Number }) {
			continue
		}
		paid++
		if w.Due > before.Clock {
			t.Fatalf("%+v is paid at %d", w, before.Clock)
		}
		for i, c := range before.Consumers {
			if w.Holds[i] != 0 && c.Id < w.Height {
				t.Fatalf("%+v is paid at %d, consumer %d has %+v", w, before.Clock, i, c)
			}
		}
	}
	if paid != n || after.Provider.Time != before.Clock {
		t.Fatalf("%d paid, told %d", paid, n)
	}
}

// checkDelivered is that the next packet of a line came, in time, and waits with the receiver.
func checkDelivered(t *testing.T, d api.Deed, n int, before, after whole) {
	t.Helper()
	waited, l := lineOf(before, d.C, d.Back)
	waits, then := lineOf(after, d.C, d.Back)
	if n != l.Got+1 || then.Got != n || l.Due[l.Got] <= before.Clock || waits != waited+1 {
		t.Fatalf("%+v: %d of %+v", d, n, l)
	}
	packet, e := codec.Decode(l.Said[l.Got])
	if e != api.OK || (packet.Kind == api.Change) == d.Back {
		t.Fatalf("%+v: %+v, %d", d, packet, e)
	}
}

// No call panics, whatever stands in a deed.
func TestWildNumbers(t *testing.T) {
	wild := []int{math.MinInt, -1, 0, 1, 2, 6, 13, 17, api.MaxTime, api.MaxAmount + 1, math.MaxInt}
	for _, kind := range append(kinds(), noKinds()...) {
		for _, a := range wild {
			for _, b := range wild {
				w := made(t, busy()...)
				for _, d := range []api.Deed{{C: a, N: b}, {D: a, V: b, N: 1}, {V: a, N: b}, {C: 1, V: a, N: b, Back: true}, {C: a, V: b, Forged: true}} {
					d.Kind = kind
					then := look(w)
					if r := w.Do(d); r.Code != api.OK && (r.N != 0 || !same(look(w), then)) {
						t.Errorf("%+v: %+v", d, r)
					}
				}
			}
		}
	}
}
