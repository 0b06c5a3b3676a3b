package consumer_test

import (
	"math"
	"testing"

	"suzerain/api"
	"suzerain/consumer"
)

// goodChains are chains at the edges of what a good one is.
func goodChains() []api.Consumer {
	return []api.Consumer{
		{}, mixed(), calm(), consumer.Begin(allSix(1), 4, 7), consumer.Remove(mixed()),
		consumer.Begin(nil, 0, 0), consumer.Begin([]api.Power{}, api.MaxTime, api.MaxTime),
		with(func(c *api.Consumer) { c.On = false }),
		with(func(c *api.Consumer) { c.On, c.Gone = false, true }),
		with(func(c *api.Consumer) { c.Height, c.Time, c.Id = 0, 0, 0 }),
		with(func(c *api.Consumer) { c.Height, c.Time, c.Id = api.MaxTime-1, api.MaxTime, api.MaxTime }),
		with(func(c *api.Consumer) { c.Set = nil }),
		with(func(c *api.Consumer) { c.Set = allSix(api.MaxAmount) }),
		with(func(c *api.Consumer) { c.Set = []api.Power{{V: 5, N: 1}} }),
		with(func(c *api.Consumer) { c.Pending = []api.Packet{change(1, nil), change(api.MaxTime, nil)} }),
		with(func(c *api.Consumer) { c.Pending = []api.Packet{change(9, allSix(0), 0, 1, 2, 3, 4, 5)} }),
		with(func(c *api.Consumer) { c.Pending = []api.Packet{change(9, allSix(api.MaxAmount))} }),
		with(func(c *api.Consumer) { c.Pending = []api.Packet{change(9, []api.Power{}, []int{}...)} }),
		// Neither need Ids rise.
		with(func(c *api.Consumer) { c.Pending = []api.Packet{change(9, nil), change(9, nil), change(2, nil)} }),
		with(func(c *api.Consumer) { c.Ripes = []api.Ripe{{Id: 1, Due: 0}, {Id: api.MaxTime, Due: math.MaxInt}} }),
		with(func(c *api.Consumer) { c.Ripes = []api.Ripe{{Id: 9, Due: 9}, {Id: 9, Due: 8}, {Id: 3, Due: 7}} }),
		with(func(c *api.Consumer) { c.Flags = flags(0, 1, 2, 3, 4, 5) }),
		with(func(c *api.Consumer) { c.Out = api.Line{} }),
		with(func(c *api.Consumer) { c.Out = said(api.MaxSaid) }),
		with(func(c *api.Consumer) { c.Out.Closed = true }),
		with(func(c *api.Consumer) { c.Out.Got = 2 }),
		// Of what was seen nothing is asked.
		with(func(c *api.Consumer) {
			c.Seen = api.Head{Height: -1, Time: math.MinInt, Said: -1, Got: math.MaxInt}
		}),
	}
}

// badChains are chains with one thing wrong each.
func badChains() map[string]api.Consumer {
	m := map[string]api.Consumer{
		"both on and gone":        with(func(c *api.Consumer) { c.Gone = true }),
		"a height below 0":        with(func(c *api.Consumer) { c.Height = -1 }),
		"the least height":        with(func(c *api.Consumer) { c.Height = math.MinInt }),
		"the height MaxTime":      with(func(c *api.Consumer) { c.Height = api.MaxTime }),
		"the greatest height":     with(func(c *api.Consumer) { c.Height = math.MaxInt }),
		"a due less":              with(func(c *api.Consumer) { c.Out.Due = []int{80} }),
		"a due below 0":           with(func(c *api.Consumer) { c.Out.Due = []int{80, -1} }),
		"got below 0":             with(func(c *api.Consumer) { c.Out.Got = -1 }),
		"got more than were said": with(func(c *api.Consumer) { c.Out.Got = 3 }),
		"too much said":           with(func(c *api.Consumer) { c.Out = said(api.MaxSaid + 1) }),
		"a bad line that is shut": with(func(c *api.Consumer) { c.Out = api.Line{Got: 1, Closed: true} }),
	}
	for i, n := range noTimes() {
		m["no time "+string(rune('a'+i))] = with(func(c *api.Consumer) { c.Time = n })
		m["no id "+string(rune('a'+i))] = with(func(c *api.Consumer) { c.Id = n })
	}
	addBadSets(m)
	addBadPending(m)
	addBadRipes(m)
	return m
}

func addBadSets(m map[string]api.Consumer) {
	for name, l := range map[string][]api.Power{
		"a power of 0":            {{V: 0, N: 3}, {V: 1, N: 0}},
		"a power below 0":         {{V: 0, N: -1}},
		"a power above MaxAmount": {{V: 0, N: api.MaxAmount + 1}},
		"a validator twice":       {{V: 1, N: 3}, {V: 1, N: 3}},
		"a set that falls":        {{V: 2, N: 3}, {V: 1, N: 3}},
		"a validator below 0":     {{V: -1, N: 3}, {V: 1, N: 3}},
		"the least validator":     {{V: math.MinInt, N: 3}},
		"a validator too many":    append(allSix(1), api.Power{V: api.Validators, N: 1}),
		"the greatest validator":  {{V: math.MaxInt, N: 3}},
	} {
		m[name] = with(func(c *api.Consumer) { c.Set = l })
		m[name+", begun"] = consumer.Begin(l, 4, 7)
	}
}

func addBadPending(m map[string]api.Consumer) {
	for name, p := range map[string]api.Packet{
		"no packet":                     {},
		"no kind":                       {Kind: 5, Id: 9},
		"a Matured":                     matured(9),
		"a Down":                        down(9, 1, 3),
		"a Double":                      double(9, 1, 3),
		"an Id 0":                       change(0, nil),
		"an Id below 0":                 change(-1, nil),
		"an Id above MaxTime":           change(api.MaxTime+1, nil),
		"a Change with a validator":     {Kind: api.Change, Id: 9, V: 1},
		"a Change with a number":        {Kind: api.Change, Id: 9, N: 1},
		"a change below 0":              change(9, []api.Power{{V: 1, N: -1}}),
		"a change above MaxAmount":      change(9, []api.Power{{V: 1, N: api.MaxAmount + 1}}),
		"changes that fall":             change(9, []api.Power{{V: 1, N: 1}, {V: 0, N: 1}}),
		"a change of no validator":      change(9, []api.Power{{V: api.Validators, N: 1}}),
		"a change of who is below 0":    change(9, []api.Power{{V: -1, N: 1}}),
		"Done twice":                    change(9, nil, 2, 2),
		"Done that falls":               change(9, nil, 2, 1),
		"Done of no validator":          change(9, nil, api.Validators),
		"Done of who is below 0":        change(9, nil, -1),
		"Done of the greatest there is": change(9, nil, math.MaxInt),
	} {
		m[name+", pending first"] = with(func(c *api.Consumer) { c.Pending[0] = p })
		m[name+", pending last"] = with(func(c *api.Consumer) { c.Pending[1] = p })
	}
}

func addBadRipes(m map[string]api.Consumer) {
	for name, r := range map[string]api.Ripe{
		"a ripe of nothing":       {Due: 60},
		"a ripe below 0":          {Id: -1, Due: 60},
		"the least ripe":          {Id: math.MinInt, Due: 60},
		"a ripe above MaxTime":    {Id: api.MaxTime + 1, Due: 60},
		"the greatest ripe":       {Id: math.MaxInt, Due: 60},
		"a ripe's due below 0":    {Id: 5, Due: -1},
		"a ripe of the least due": {Id: 5, Due: math.MinInt},
	} {
		m[name+", first"] = with(func(c *api.Consumer) { c.Ripes[0] = r })
		m[name+", last"] = with(func(c *api.Consumer) { c.Ripes[2] = r })
	}
}

// P8.1
func TestBegin(t *testing.T) {
	for _, set := range [][]api.Power{nil, {}, {{V: 1, N: 5}, {V: 3, N: 2}}, allSix(api.MaxAmount)} {
		for _, n := range [][2]int{{4, 7}, {0, 0}, {1, api.MaxTime}, {api.MaxTime, 1}} {
			want := api.Consumer{On: true, Set: set, Id: n[0], Time: n[1]}
			c := consumer.Begin(set, n[0], n[1])
			check(t, "Begin", c, api.OK, want, api.OK)
			if !consumer.Good(c) {
				t.Errorf("%+v is good", c)
			}
		}
	}
}

// P8.1: Begin takes what it is given, also where no good chain comes of it.
func TestBeginOfWrongThings(t *testing.T) {
	odd := []api.Power{{V: math.MaxInt, N: 0}, {V: -1, N: math.MinInt}}
	for _, n := range noTimes() {
		check(t, "Begin", consumer.Begin(odd, n, 7), api.OK, api.Consumer{On: true, Set: odd, Id: n, Time: 7}, api.OK)
		check(t, "Begin", consumer.Begin(odd, 7, n), api.OK, api.Consumer{On: true, Set: odd, Id: 7, Time: n}, api.OK)
	}
}

// P8.1
func TestGood(t *testing.T) {
	for i, c := range goodChains() {
		if !consumer.Good(c) {
			t.Errorf("%d: %+v is good", i, c)
		}
	}
	for name, c := range badChains() {
		if consumer.Good(c) {
			t.Errorf("%s: %+v is not good", name, c)
		}
		// That one is not on mends nothing else.
		c.On = false
		if name != "both on and gone" && consumer.Good(c) {
			t.Errorf("%s, and not on: %+v is not good", name, c)
		}
	}
}

// P8.1: that a chain is not good comes ahead of all else, be it on or not.
func TestABadChainComesFirst(t *testing.T) {
	for name, bad := range badChains() {
		off := bad
		off.On = false
		for _, c := range []api.Consumer{bad, off} {
			if consumer.Good(c) {
				continue
			}
			for _, x := range calls() {
				for _, n := range [][2]int{{2, 50}, {2, 60}, {0, 60}, {-1, 60}, {9, 60}, {1, 49}, {2, -1}, {math.MaxInt, math.MaxInt}} {
					after, e := x.do(t, c, n[0], n[1])
					check(t, x.name+" of "+name, after, e, c, api.ErrRange)
				}
			}
		}
	}
}

// P8.1: that a chain is not on comes next; of Down and Double a wrong now comes ahead of it, of End it does not.
func TestAChainThatIsNotOn(t *testing.T) {
	for _, c := range []api.Consumer{{}, with(func(c *api.Consumer) { c.On = false }), consumer.Remove(mixed()), consumer.Remove(calm())} {
		for _, x := range calls() {
			for _, a := range []int{0, 2, 1, -1, api.Validators, math.MinInt, math.MaxInt} {
				for _, now := range []int{0, 49, 50, 60, api.MaxTime} {
					after, e := x.do(t, c, a, now)
					check(t, x.name, after, e, c, api.ErrNone)
				}
				for _, now := range noTimes() {
					code := api.ErrNone
					if x.name == "Down" || x.name == "Double" || x.name == "Double of no height" {
						code = api.ErrRange
					}
					after, e := x.do(t, c, a, now)
					check(t, x.name+" at no time", after, e, c, code)
				}
			}
		}
	}
}
