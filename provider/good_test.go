package provider_test

import (
	"math"
	"testing"

	"suzerain/api"
	"suzerain/provider"
)

// allSix is a set of all validators: more than MaxSet may be in a chain's own.
func allSix(n int) []api.Power {
	var l []api.Power
	for v := range api.Validators {
		l = append(l, api.Power{V: v, N: n})
	}
	return l
}

// goodChains are ordinary chains, and those at the edges of what is good.
func goodChains() []api.Provider {
	return []api.Provider{
		provider.New(), mixed(), calm(), free(),
		with(func(p *api.Provider) { p.Height, p.Links[0].Base, p.Links[1].Base = 0, 0, 0 }),
		with(func(p *api.Provider) { p.Height = api.MaxTime - 1 }),
		with(func(p *api.Provider) { p.Time = 0 }),
		with(func(p *api.Provider) { p.Time = api.MaxTime }),
		with(func(p *api.Provider) { p.Set = nil }),
		with(func(p *api.Provider) { p.Set = []api.Power{} }),
		with(func(p *api.Provider) { p.Set = allSix(1) }),
		with(func(p *api.Provider) { p.Set = allSix(api.MaxAmount) }),
		with(func(p *api.Provider) { p.Links[0].Told = nil }),
		with(func(p *api.Provider) { p.Links[0].Told = allSix(api.MaxAmount) }),
		with(func(p *api.Provider) { p.Links[0].Base, p.Links[1].Base = 0, 9 }),
		with(func(p *api.Provider) { p.Links[0].Done = []int{} }),
		with(func(p *api.Provider) { p.Links[0].Done = []int{0, 1, 2, 3, 4, 5} }),
		with(func(p *api.Provider) { p.Links[0].Out.Closed = true }),
		with(func(p *api.Provider) { p.Links[0].Out.Got = 2 }),
		with(func(p *api.Provider) { p.Links[1].Out = said(api.MaxSaid) }),
		with(func(p *api.Provider) { p.Queue[0].P.Id, p.Queue[3].P.Id = 1, api.MaxTime }),
		with(func(p *api.Provider) { p.Queue[1].P.V, p.Queue[1].P.N = 5, api.MaxAmount }),
		with(func(p *api.Provider) { p.Queue[1].P.Set, p.Queue[1].P.Done = []api.Power{}, []int{} }),
		with(func(p *api.Provider) { p.Queue = []api.Asked{} }),
		// Of a meter, of what was seen, and of a consumer that is nothing yet nothing more is asked.
		with(func(p *api.Provider) { p.Meter = api.Meter{Left: math.MinInt, Next: math.MaxInt} }),
		with(func(p *api.Provider) { p.Meter = api.Meter{Left: math.MaxInt, Next: math.MinInt} }),
		with(func(p *api.Provider) {
			p.Links[0].Seen = api.Head{Height: -1, Time: math.MinInt, Said: -1, Got: math.MaxInt}
		}),
		with(func(p *api.Provider) { p.Links[0].On, p.Links[1].On, p.Queue = false, false, nil }),
		with(func(p *api.Provider) { p.Links[1].On, p.Links[1].Gone, p.Queue = false, true, nil }),
		with(func(p *api.Provider) { p.Stake.Waits[0].Holds = holds(math.MinInt, math.MaxInt) }),
	}
}

// said is a good line of n packets.
func said(n int) api.Line {
	l := api.Line{Said: make([]string, n), Due: make([]int, n)}
	for i := range n {
		l.Said[i], l.Due[i] = string(rune('a'+i%26)), i
	}
	return l
}

// badChains are chains with one thing wrong each.
func badChains() map[string]api.Provider {
	m := map[string]api.Provider{
		"nothing at all":             {},
		"a stake that is none":       with(func(p *api.Provider) { p.Stake = api.Stake{} }),
		"a token too many":           with(func(p *api.Provider) { p.Stake.Bank.Free[0]++ }),
		"dead and not jailed":        with(func(p *api.Provider) { p.Stake.Validators[2].Jailed = false }),
		"a wait of the next number":  with(func(p *api.Provider) { p.Stake.Next = 7 }),
		"a height below 0":           with(func(p *api.Provider) { *p = provider.New(); p.Height = -1 }),
		"the least height":           with(func(p *api.Provider) { *p = provider.New(); p.Height = math.MinInt }),
		"the height MaxTime":         with(func(p *api.Provider) { p.Height = api.MaxTime }),
		"the greatest height":        with(func(p *api.Provider) { p.Height = math.MaxInt }),
		"both on and gone":           with(func(p *api.Provider) { p.Links[0].Gone = true }),
		"the other both":             with(func(p *api.Provider) { p.Links[1].Gone = true }),
		"a base below 0":             with(func(p *api.Provider) { p.Links[0].Base = -1 }),
		"the least base":             with(func(p *api.Provider) { p.Links[1].Base = math.MinInt }),
		"a base above the height":    with(func(p *api.Provider) { p.Links[0].Base = 10 }),
		"the greatest base":          with(func(p *api.Provider) { p.Links[1].Base = math.MaxInt }),
		"a due less":                 with(func(p *api.Provider) { p.Links[0].Out.Due = []int{80} }),
		"got more than were said":    with(func(p *api.Provider) { p.Links[0].Out.Got = 3 }),
		"too much said":              with(func(p *api.Provider) { p.Links[1].Out = said(api.MaxSaid + 1) }),
		"a bad line of who is gone":  with(func(p *api.Provider) { p.Links[1] = api.Link{Gone: true, Out: api.Line{Got: 1}}; p.Queue = nil }),
		"a bad line of who is none":  with(func(p *api.Provider) { p.Links[1] = api.Link{Out: api.Line{Got: -1}}; p.Queue = nil }),
		"a bad base of who is gone":  with(func(p *api.Provider) { p.Links[1] = api.Link{Gone: true, Base: 10}; p.Queue = nil }),
		"a bad Done of who is none":  with(func(p *api.Provider) { p.Links[1] = api.Link{Done: []int{6}}; p.Queue = nil }),
		"a queue of who is not on":   with(func(p *api.Provider) { p.Links[1].On = false }),
		"a queue of who is gone":     with(func(p *api.Provider) { p.Links[1].On, p.Links[1].Gone = false, true }),
		"a Matured with a validator": with(func(p *api.Provider) { p.Queue[3].P.V = 1 }),
		"a Down with a set":          with(func(p *api.Provider) { p.Queue[1].P.Set = allSix(1) }),
		"a Down of no power":         with(func(p *api.Provider) { p.Queue[1].P.N = 0 }),
		"a Double of no validator":   with(func(p *api.Provider) { p.Queue[2].P.V = api.Validators }),
		"a Double below 0":           with(func(p *api.Provider) { p.Queue[2].P.V = -1 }),
		"an Id 0":                    with(func(p *api.Provider) { p.Queue[0].P.Id = 0 }),
		"an Id above MaxTime":        with(func(p *api.Provider) { p.Queue[3].P.Id = api.MaxTime + 1 }),
		"a Change in the queue":      with(func(p *api.Provider) { p.Queue[3].P = api.Packet{Kind: api.Change, Id: 5} }),
		"no kind in the queue":       with(func(p *api.Provider) { p.Queue[0].P = api.Packet{Id: 5} }),
		"a kind above all":           with(func(p *api.Provider) { p.Queue[0].P.Kind = 5 }),
	}
	for i, n := range noTimes() {
		m["no time "+string(rune('a'+i))] = with(func(p *api.Provider) { p.Time = n })
	}
	for i, c := range noConsumers() {
		m["no consumer "+string(rune('a'+i))] = with(func(p *api.Provider) { p.Queue[i%4].C = c })
	}
	addBadSets(m)
	addBadDone(m)
	return m
}

func addBadSets(m map[string]api.Provider) {
	for name, l := range map[string][]api.Power{
		"a power of 0":            {{V: 0, N: 3}, {V: 1, N: 0}},
		"a power below 0":         {{V: 0, N: -1}},
		"a power above MaxAmount": {{V: 0, N: api.MaxAmount + 1}},
		"a validator twice":       {{V: 1, N: 3}, {V: 1, N: 3}},
		"a set that falls":        {{V: 2, N: 3}, {V: 1, N: 3}},
		"a validator below 0":     {{V: -1, N: 3}, {V: 1, N: 3}},
		"the least validator":     {{V: math.MinInt, N: 3}},
		"a validator too many":    append(allSix(1), api.Power{V: api.Validators, N: 1}),
		"the greatest validator":  {{V: math.MaxInt, N: 3}},
	} {
		m[name] = with(func(p *api.Provider) { p.Set = l })
		m[name+", told"] = with(func(p *api.Provider) { p.Links[0].Told = l })
		m[name+", told the other"] = with(func(p *api.Provider) { p.Links[1].Told = l })
		m[name+", told who is none"] = with(func(p *api.Provider) { p.Links[1] = api.Link{Told: l}; p.Queue = nil })
	}
}

func addBadDone(m map[string]api.Provider) {
	for name, l := range map[string][]int{
		"twice": {1, 1}, "falling": {2, 1}, "below 0": {-1, 1}, "the least": {math.MinInt}, "too great": {0, api.Validators}, "the greatest": {math.MaxInt},
	} {
		m["Done "+name] = with(func(p *api.Provider) { p.Links[0].Done = l })
		m["Done of the other "+name] = with(func(p *api.Provider) { p.Links[1].Done = l })
	}
}

// P7.1
func TestNew(t *testing.T) {
	want := api.Provider{
		Stake: api.Stake{Bank: api.Bank{Free: [api.Delegators]int{100000, 100000, 100000, 100000}}, Next: 1},
		Meter: api.Meter{Left: 1, Next: 10},
	}
	check(t, "New", provider.New(), api.OK, want, api.OK)
}

// P7.1
func TestGood(t *testing.T) {
	for i, p := range goodChains() {
		if !provider.Good(p) {
			t.Errorf("%d: %+v is good", i, p)
		}
	}
	for name, p := range badChains() {
		if provider.Good(p) {
			t.Errorf("%s: %+v is not good", name, p)
		}
	}
}

// P7.1: that a chain is not good comes ahead of all else.
func TestABadChainComesFirst(t *testing.T) {
	for name, p := range badChains() {
		for _, c := range calls() {
			for _, x := range [][2]int{{0, 1}, {1, 50}, {0, 60}, {-1, 60}, {9, 9}, {2, 5}, {math.MaxInt, math.MinInt}} {
				code := api.ErrRange
				if c.name == "Remove" {
					code = api.OK
				}
				after, e := c.do(t, p, x[0], x[1])
				if !same(after, p) || e != code {
					t.Errorf("%s of %s: %+v, %d", c.name, name, after, e)
				}
			}
		}
	}
}
