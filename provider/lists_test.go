package provider_test

import (
	"math/rand/v2"
	"reflect"
	"slices"
	"testing"

	"suzerain/api"
	"suzerain/bank"
	"suzerain/codec"
	"suzerain/provider"
	"suzerain/stake"
)

// busy are chains in which each call finds something to change in each list.
func busy() []api.Provider {
	return []api.Provider{
		mixed(), calm(), free(),
		with(func(p *api.Provider) { p.Meter.Left = 1000 }),
		with(func(p *api.Provider) { p.Meter.Left = 0 }),
		with(func(p *api.Provider) {
			p.Meter.Left = 1000
			p.Queue = []api.Asked{{C: 1, P: down(0)}, {C: 0, P: down(0)}, {C: 0, P: matured(9)}, {C: 1, P: double(1, 0)}, {C: 1, P: down(3)}}
		}),
		with(func(p *api.Provider) { p.Links[0].Out.Closed = true }),
		with(func(p *api.Provider) { p.Links[0].On, p.Queue = false, nil }),
		with(func(p *api.Provider) {
			p.Queue[0].P = api.Packet{Kind: api.Change, Id: 1, Set: allSix(1), Done: []int{1}}
		}),
		with(func(p *api.Provider) { p.Stake.Next = 1 }),
	}
}

// Lists that are handed in are not changed, nor is their spare room.
func TestListsAreNotChanged(t *testing.T) {
	for i, x := range busy() {
		for _, c := range calls() {
			for _, n := range [][2]int{{0, 5}, {1, 51}, {0, 200}, {1, 9}, {-1, 0}, {9, 70}} {
				p, r := roomy(x)
				provider.Good(p)
				if _, _ = c.do(t, p, n[0], n[1]); !r.untouched() || !same(p, x) {
					t.Errorf("%d: %s changed what it was handed: %+v", i, c.name, p)
				}
			}
		}
	}
}

// What was answered holds against later calls, also where several go out from one chain.
func TestChainsThatPart(t *testing.T) {
	for i, x := range busy()[:8] {
		p, _ := roomy(x)
		for _, first := range calls() {
			after, _ := first.do(t, p, 1, 51)
			whole, _ := roomy(after)
			for _, second := range calls() {
				second.do(t, after, 1, 60)
				second.do(t, p, 1, 70)
				if !same(after, whole) {
					t.Fatalf("%d: %s of what %s answered changed it: %+v", i, second.name, first.name, after)
				}
			}
		}
	}
}

// The lists of one answer are lists of their own: what is written into one is seen in no other.
func TestListsOfAnAnswer(t *testing.T) {
	begun, _ := provider.Begin(free(), 0)
	told, _ := ended(t, with(func(p *api.Provider) { p.Queue = nil }), 51)
	for _, p := range []api.Provider{begun, told} {
		set := slices.Clone(p.Set)
		p.Set[0].N = 99
		for c := range p.Links {
			if link := p.Links[c]; link.On && !slices.Equal(link.Told, set) {
				t.Errorf("Told is Set's own memory: %+v", link.Told)
			}
		}
		for c := range p.Links {
			if l := p.Links[c].Told; len(l) > 0 {
				l[0].N = 77 + c
			}
		}
		if l, m := p.Links[0].Told, p.Links[1].Told; len(m) > 0 && l[0] == m[0] {
			t.Errorf("both Told are one list: %v", l)
		}
	}
}

// A list without elements may be handed in nil or not.
func TestEmptyLists(t *testing.T) {
	for _, x := range []api.Provider{provider.New(), free(), calm()} {
		full := x
		full.Queue = []api.Asked{}
		for c := range full.Links {
			link := &full.Links[c]
			link.Done = []int{}
			if len(link.Told) == 0 {
				link.Told = []api.Power{}
			}
			if len(link.Out.Said) == 0 {
				link.Out.Said, link.Out.Due = []string{}, []int{}
			}
		}
		if len(x.Set) == 0 {
			full.Set, full.Stake.Waits = []api.Power{}, []api.Wait{}
		}
		for _, c := range calls() {
			for _, n := range [][2]int{{0, 5}, {1, 51}, {0, 200}} {
				a, e := c.do(t, x, n[0], n[1])
				b, f := c.do(t, full, n[0], n[1])
				if !same(a, b) || e != f {
					t.Errorf("%s: %+v, %d; and %+v, %d", c.name, a, e, b, f)
				}
			}
		}
	}
}

// Whatever is done to a new chain, it is a good one, what was handed in stays, and its consumers can rely on it.
func FuzzDeeds(f *testing.F) {
	f.Add([]byte{0, 0, 0, 70, 0, 1, 1, 90, 7, 0, 0, 3, 2, 0, 0, 0, 1, 0, 0, 30, 2, 1, 0, 0, 7, 0, 0, 9, 4, 0, 0, 2, 4, 1, 0, 2, 7, 0, 0, 40})
	f.Add([]byte{0, 2, 3, 255, 7, 0, 0, 9, 2, 1, 0, 0, 4, 1, 7, 9, 4, 1, 11, 1, 7, 0, 0, 1, 6, 0, 3, 1, 3, 1, 0, 0, 7, 0, 0, 30})
	f.Add([]byte{0, 0, 0, 70, 7, 0, 0, 3, 2, 0, 0, 0, 1, 0, 0, 30, 7, 0, 0, 3, 4, 0, 1, 9, 4, 0, 0, 4, 7, 0, 0, 3, 6, 0, 0, 2, 7, 0, 0, 30})
	f.Fuzz(walk)
}

// The same of long walks, with numbers that are mostly right.
func TestWalks(t *testing.T) {
	r := rand.New(rand.NewPCG(7, 21))
	for range 200 {
		var deeds []byte
		for range 150 {
			kind := byte(r.IntN(8))
			// Whoever is removed never comes back: seldom, else all walks are soon alone.
			if kind == 3 && r.IntN(10) > 0 {
				kind = 7
			}
			a, b := byte(1+r.IntN(4)), byte(1+r.IntN(6))
			if kind > 1 && kind < 6 {
				a = byte(1 + r.IntN(2))
			}
			deeds = append(deeds, kind, a, b, byte(r.IntN(30)))
		}
		walk(t, deeds)
	}
}

// walk does deeds to a new chain, four bytes each, and looks at it behind each of them.
func walk(t *testing.T, deeds []byte) {
	p := provider.New()
	var began [api.Consumers][]api.Power
	for ; len(deeds) >= 4; deeds = deeds[4:] {
		before, r := roomy(p)
		a, b, n := int(deeds[1])-1, int(deeds[2])-1, int(deeds[3])
		after, e := deed(t, int(deeds[0]), before, a, b, n)
		if !r.untouched() || !same(before, p) {
			t.Fatalf("%v changed what it was handed: %+v", deeds[:4], before)
		}
		if !provider.Good(after) || e != api.OK && !same(after, p) {
			t.Fatalf("%v: %+v becomes %+v, %d", deeds[:4], p, after, e)
		}
		for c := range after.Links {
			if after.Links[c].On && !p.Links[c].On {
				began[c] = slices.Clone(p.Set)
			}
			checkLink(t, after, c, began[c])
		}
		if bank.Sum(after.Stake.Bank) != api.Delegators*api.Grant || after.Height < p.Height || after.Time < p.Time {
			t.Fatalf("%v: %+v becomes %+v", deeds[:4], p, after)
		}
		p = after
	}
}

// checkLink is what a consumer relies on: what it was told makes of its first set the one that it is thought to have,
// and what it holds is either told of already or will be.
func checkLink(t *testing.T, p api.Provider, c int, set []api.Power) {
	t.Helper()
	link, last := p.Links[c], 0
	for _, s := range link.Out.Said {
		packet, e := codec.Decode(s)
		if e != api.OK || packet.Kind != api.Change || packet.Id <= last || packet.Id <= link.Base || packet.Id > p.Height {
			t.Fatalf("%+v is told behind %d, %d", packet, last, e)
		}
		set, last = stake.Apply(set, packet.Set), packet.Id
	}
	if link.On && !slices.Equal(set, link.Told) {
		t.Fatalf("%v is told; %v is thought to be", set, link.Told)
	}
	for _, w := range p.Stake.Waits {
		if h := w.Holds[c]; h != 0 && (!link.On || h != w.Height || h > last && !link.Fresh) {
			t.Fatalf("%+v is held by %+v", w, link)
		}
	}
}

func deed(t *testing.T, kind int, p api.Provider, a, b, n int) (api.Provider, api.Errno) {
	switch kind % 8 {
	case 0:
		return provider.Delegate(p, a, b, n*n)
	case 1:
		return provider.Undelegate(p, a, b, n*n, p.Time+n%3-1)
	case 2:
		return provider.Begin(p, a)
	case 3:
		after := provider.Remove(p, a)
		if a >= 0 && a < api.Consumers && (after.Links[a].On || p.Links[a].On != after.Links[a].Gone && !p.Links[a].Gone) {
			t.Fatalf("Remove: %+v becomes %+v", p.Links[a], after.Links[a])
		}
		return after, api.OK
	case 4:
		packet := api.Packet{Kind: n%3 + api.Matured, Id: n/3 + 1}
		if packet.Kind != api.Matured {
			packet.V, packet.N = (b+1)%api.Validators, 1
		}
		s, _ := codec.Encode(packet)
		return provider.Hear(p, a, s)
	case 5:
		return provider.Hear(p, a, string([]byte{byte(n), byte(b)}))
	case 6:
		return provider.Evidence(p, b, n)
	}
	return checkEnd(t, p, p.Time+n-1)
}

// checkEnd is End, and whether it paid just what was due and free.
func checkEnd(t *testing.T, p api.Provider, now int) (api.Provider, api.Errno) {
	after, paid, e := provider.End(p, now)
	if e != api.OK {
		return after, e
	}
	var numbers []int
	for _, w := range after.Stake.Waits {
		numbers = append(numbers, w.Number)
		if w.Due <= now && w.Holds == holds(0, 0) {
			t.Fatalf("%+v is not paid at %d", w, now)
		}
	}
	for _, w := range p.Stake.Waits {
		if slices.Contains(paid, w.Number) == slices.Contains(numbers, w.Number) || slices.Contains(paid, w.Number) && w.Due > now {
			t.Fatalf("%+v, of which %v is paid at %d", w, paid, now)
		}
	}
	if after.Height != p.Height+1 || after.Time != now || !reflect.DeepEqual(tidy(after.Set), tidy(stake.Set(after.Stake))) {
		t.Fatalf("End: %+v becomes %+v", p, after)
	}
	return after, api.OK
}
