package consumer_test

import (
	"math"
	"math/rand/v2"
	"slices"
	"testing"

	"suzerain/api"
	"suzerain/codec"
	"suzerain/consumer"
	"suzerain/stake"
)

// busy are chains in which each call finds something to change in each list.
func busy() []api.Consumer {
	return []api.Consumer{
		mixed(), calm(), consumer.Begin(allSix(3), 9, 40), consumer.Remove(mixed()),
		with(func(c *api.Consumer) { c.Ripes = nil }),
		with(func(c *api.Consumer) { c.Pending = nil }),
		with(func(c *api.Consumer) { c.Ripes = []api.Ripe{{Id: 1, Due: 1}, {Id: 2, Due: 1}} }),
		with(func(c *api.Consumer) { c.Out.Closed = true }),
		with(func(c *api.Consumer) { c.Out = said(api.MaxSaid - 1) }),
		with(func(c *api.Consumer) { c.Set = nil }),
		with(func(c *api.Consumer) { c.Pending[1].Kind = api.Down }),
		with(func(c *api.Consumer) { c.Time = -1 }),
	}
}

// allCalls are those of calls, and Remove.
func allCalls() []call {
	return append(calls(), call{"Remove", func(t *testing.T, c api.Consumer, a, now int) (api.Consumer, api.Errno) {
		return consumer.Remove(c), api.OK
	}})
}

// Lists that are handed in are not changed, nor is their spare room.
func TestListsAreNotChanged(t *testing.T) {
	for i, x := range busy() {
		for _, y := range allCalls() {
			for _, n := range [][2]int{{2, 50}, {0, 51}, {5, 66}, {1, 90}, {-1, 60}, {9, 60}, {2, -1}} {
				c, r := roomy(x)
				consumer.Good(c)
				if _, _ = y.do(t, c, n[0], n[1]); !r.untouched() || !same(c, x) {
					t.Errorf("%d: %s changed what it was handed: %+v", i, y.name, c)
				}
			}
		}
	}
}

// What was answered holds against later calls, also where several go out from one chain.
func TestChainsThatPart(t *testing.T) {
	for i, x := range busy() {
		c, _ := roomy(x)
		for _, first := range allCalls() {
			after, _ := first.do(t, c, 2, 51)
			whole, _ := roomy(after)
			for _, second := range allCalls() {
				one, _ := second.do(t, after, 5, 70)
				other, _ := roomy(one)
				for _, third := range allCalls() {
					third.do(t, after, 1, 80)
					third.do(t, c, 5, 90)
				}
				if !same(after, whole) || !same(one, other) {
					t.Fatalf("%d: calls of what %s and %s answered changed it: %+v", i, first.name, second.name, after)
				}
			}
		}
	}
}

// The set that a chain begins with is its own.
func TestBeginHasItsOwnSet(t *testing.T) {
	r := &room{}
	set := widen(r, allSix(3), api.Power{V: -77, N: -88})
	c := consumer.Begin(set, 9, 40)
	for _, x := range allCalls() {
		x.do(t, c, 2, 60)
	}
	if !r.untouched() {
		t.Errorf("Begin changed what it was handed: %v", set)
	}
	set[0].N = 99
	if c.Set[0].N != 3 {
		t.Errorf("what is written into the list that was handed in is seen in the chain: %v", c.Set)
	}
}

// A list without elements may be handed in nil or not.
func TestEmptyLists(t *testing.T) {
	for _, x := range []api.Consumer{{}, consumer.Begin(nil, 4, 7), calmWith(func(c *api.Consumer) { c.Ripes = nil })} {
		full := x
		full.Pending, full.Ripes = []api.Packet{}, []api.Ripe{}
		if len(x.Set) == 0 {
			full.Set = []api.Power{}
		}
		if len(x.Out.Said) == 0 {
			full.Out.Said, full.Out.Due = []string{}, []int{}
		}
		for _, y := range allCalls() {
			for _, n := range [][2]int{{2, 50}, {0, 51}, {5, 66}, {-1, 60}} {
				a, e := y.do(t, x, n[0], n[1])
				b, f := y.do(t, full, n[0], n[1])
				if !same(a, b) || e != f {
					t.Errorf("%s: %+v, %d; and %+v, %d", y.name, a, e, b, f)
				}
			}
		}
	}
}

// No call panics, whatever stands in a chain.
func TestWildNumbers(t *testing.T) {
	wild := []int{math.MinInt, -1, 0, 1, api.Validators, api.MaxTime, math.MaxInt}
	for _, a := range wild {
		for _, b := range wild {
			c := api.Consumer{
				On: true, Height: a, Time: b, Id: a, Set: []api.Power{{V: a, N: b}},
				Pending: []api.Packet{{Kind: api.Change, Id: b, Set: []api.Power{{V: b, N: a}}, Done: []int{a, b}}},
				Ripes:   []api.Ripe{{Id: a, Due: b}},
				Out:     api.Line{Said: []string{"x"}, Due: []int{a}, Got: b},
			}
			for _, only := range []api.Consumer{
				c, {On: true, Height: a, Time: b}, {On: true, Id: a, Set: c.Set}, {On: true, Pending: c.Pending}, {On: true, Ripes: c.Ripes}, {On: true, Out: c.Out},
			} {
				for _, x := range allCalls() {
					after, e := x.do(t, only, a, b)
					if e != api.OK && !same(after, only) {
						t.Errorf("%s: %+v becomes %+v, %d", x.name, only, after, e)
					}
				}
			}
		}
	}
}

// Whatever is done to a chain, it is a good one, what was handed in stays, and no change is lost.
func FuzzDeeds(f *testing.F) {
	f.Add([]byte{0, 1, 2, 9, 2, 0, 0, 3, 3, 1, 0, 0, 0, 2, 5, 0, 2, 0, 0, 15, 4, 2, 1, 0, 2, 0, 0, 15})
	f.Add([]byte{3, 1, 0, 0, 0, 9, 1, 4, 2, 0, 0, 1, 3, 1, 0, 0, 1, 2, 0, 0, 2, 0, 0, 30, 5, 0, 0, 0, 2, 0, 0, 3})
	f.Fuzz(walk)
}

// The same of long walks, long enough that lines become full.
func TestWalks(t *testing.T) {
	r := rand.New(rand.NewPCG(8, 24))
	for i := range 60 {
		var deeds []byte
		for range 100 + 15*i {
			kind := byte(r.IntN(5))
			deeds = append(deeds, kind, byte(r.IntN(64)), byte(r.IntN(64)), byte(r.IntN(6)))
		}
		walk(t, append(deeds, 5, 0, 0, 0, 0, 1, 1, 1, 2, 0, 0, 9))
	}
}

// walk does deeds to a chain that begins, four bytes each, and looks at it behind each of them.
func walk(t *testing.T, deeds []byte) {
	began := []api.Power{{V: 1, N: 5}, {V: 3, N: 2}}
	c := consumer.Begin(began, 1, 0)
	var heard []api.Packet
	for id := 2; len(deeds) >= 4; deeds = deeds[4:] {
		a, b, n := int(deeds[1]), int(deeds[2]), int(deeds[3])
		before, r := roomy(c)
		var after api.Consumer
		var e api.Errno
		switch deeds[0] {
		case 0:
			packet := change(id, []api.Power{{V: a % 6, N: b}})
			if n < 6 {
				packet.Done = []int{n}
			}
			if after, e = consumer.Hear(before, text(t, packet)); e == api.OK {
				heard = append(heard, packet)
				id++
			}
		case 1:
			// Of no kind, so that it is never heard.
			after, e = consumer.Hear(before, "\x00"+string(deeds))
		case 2:
			after, e = consumer.End(before, before.Time+n)
		case 3:
			after, e = consumer.Down(before, a%8-1, before.Time+n)
		case 4:
			after, e = consumer.Double(before, a%8-1, b, before.Time+n)
		default:
			after = consumer.Remove(before)
		}
		if !r.untouched() || !same(before, c) {
			t.Fatalf("%v changed what it was handed: %+v", deeds[:4], before)
		}
		if !consumer.Good(after) || e != api.OK && !same(after, c) {
			t.Fatalf("%v: %+v becomes %+v, %d", deeds[:4], c, after, e)
		}
		checkChain(t, after, began, heard)
		c = after
	}
}

// checkChain is what a provider relies on: the chain has the set that the changes that it took in make, and each of
// them is said to be old enough, or will be, or was not taken in yet; in their order, each once.
func checkChain(t *testing.T, c api.Consumer, set []api.Power, heard []api.Packet) {
	t.Helper()
	var ids []int
	for _, s := range c.Out.Said {
		packet, e := codec.Decode(s)
		if e != api.OK || packet.Kind == api.Change || packet.Id > c.Id {
			t.Fatalf("%+v is said, %d", packet, e)
		}
		if packet.Kind == api.Matured {
			ids = append(ids, packet.Id)
		}
	}
	for _, r := range c.Ripes {
		ids = append(ids, r.Id)
	}
	taken := len(ids)
	for _, p := range c.Pending {
		ids = append(ids, p.Id)
	}
	id := 1
	for i, p := range heard {
		if i >= len(ids) || ids[i] != p.Id {
			t.Fatalf("%v of %v", ids, heard)
		}
		if i < taken {
			set, id = stake.Apply(set, p.Set), p.Id
		}
	}
	if len(ids) != len(heard) || c.Id != id || !slices.Equal(c.Set, set) {
		t.Fatalf("%+v; want %v, %d", c, set, id)
	}
}
