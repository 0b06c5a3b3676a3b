package consumer_test

import (
	"math"
	"reflect"
	"slices"
	"testing"

	"suzerain/api"
	"suzerain/codec"
	"suzerain/consumer"
)

// mixed is a good chain with something everywhere: two changes that wait for the block's end, ripes that were due, are
// due now and are not, who is flagged within the set (0), within no set (3), and who is not (2, 5).
func mixed() api.Consumer {
	return api.Consumer{
		On: true, Height: 6, Time: 50, Id: 8,
		Set:     []api.Power{{V: 0, N: 7}, {V: 2, N: 3}, {V: 5, N: 1}},
		Pending: []api.Packet{change(9, []api.Power{{V: 0, N: 9}, {V: 2, N: 0}}, 0), change(11, []api.Power{{V: 1, N: 4}}, 2, 5)},
		Ripes:   []api.Ripe{{Id: 5, Due: 48}, {Id: 6, Due: 50}, {Id: 8, Due: 60}},
		Flags:   flags(0, 3),
		Out:     api.Line{Said: []string{"a", "b"}, Due: []int{70, 88}, Got: 1},
		Seen:    api.Head{Height: 12, Time: 49, Said: 7, Got: 1},
	}
}

func change(id int, set []api.Power, done ...int) api.Packet {
	return api.Packet{Kind: api.Change, Id: id, Set: set, Done: done}
}

func matured(id int) api.Packet { return api.Packet{Kind: api.Matured, Id: id} }

func down(id, v, n int) api.Packet { return api.Packet{Kind: api.Down, Id: id, V: v, N: n} }

func double(id, v, n int) api.Packet { return api.Packet{Kind: api.Double, Id: id, V: v, N: n} }

// flags is these validators flagged, and no others.
func flags(validators ...int) [api.Validators]bool {
	var l [api.Validators]bool
	for _, v := range validators {
		l[v] = true
	}
	return l
}

// with is the mixed chain behind a change.
func with(change func(c *api.Consumer)) api.Consumer {
	c := mixed()
	change(&c)
	return c
}

// calm is the mixed chain with nothing that waits for the block's end, and nothing that is ripe.
func calm() api.Consumer {
	return with(func(c *api.Consumer) { c.Pending, c.Ripes = nil, []api.Ripe{{Id: 8, Due: 60}} })
}

// calmWith is the calm chain behind a change.
func calmWith(change func(c *api.Consumer)) api.Consumer {
	c := calm()
	change(&c)
	return c
}

// said is a good line of n packets.
func said(n int) api.Line {
	l := api.Line{Said: make([]string, n), Due: make([]int, n)}
	for i := range n {
		l.Said[i], l.Due[i] = string(rune('a'+i%26)), i
	}
	return l
}

// allSix is a set of all validators.
func allSix(n int) []api.Power {
	var l []api.Power
	for v := range api.Validators {
		l = append(l, api.Power{V: v, N: n})
	}
	return l
}

// text is a packet's bytes.
func text(t *testing.T, packet api.Packet) string {
	t.Helper()
	s, e := codec.Encode(packet)
	if e != api.OK {
		t.Fatalf("%v cannot be encoded: %d", packet, e)
	}
	return s
}

// saying is a line with packets more, all of one due.
func saying(t *testing.T, l api.Line, due int, packets ...api.Packet) api.Line {
	t.Helper()
	l.Said, l.Due = slices.Clone(l.Said), slices.Clone(l.Due)
	for _, p := range packets {
		l.Said, l.Due = append(l.Said, text(t, p)), append(l.Due, due)
	}
	return l
}

// tidy is a list that is nil, if it has no elements.
func tidy[E any](l []E) []E {
	if len(l) == 0 {
		return nil
	}
	return l
}

func tidyChain(c api.Consumer) api.Consumer {
	c.Set, c.Ripes = tidy(c.Set), tidy(c.Ripes)
	c.Out.Said, c.Out.Due = tidy(c.Out.Said), tidy(c.Out.Due)
	c.Pending = tidy(slices.Clone(c.Pending))
	for i := range c.Pending {
		p := &c.Pending[i]
		p.Set, p.Done = tidy(p.Set), tidy(p.Done)
	}
	return c
}

// same is whether two chains are alike; nil or not is no matter.
func same(a, b api.Consumer) bool {
	return reflect.DeepEqual(tidyChain(a), tidyChain(b))
}

func check(t *testing.T, what string, c api.Consumer, e api.Errno, want api.Consumer, code api.Errno) {
	t.Helper()
	if !same(c, want) || e != code {
		t.Errorf("%s: %+v, %d; want %+v, %d", what, c, e, want, code)
	}
}

// ended is a chain behind a block's end that goes well.
func ended(t *testing.T, c api.Consumer, now int) api.Consumer {
	t.Helper()
	after, e := consumer.End(c, now)
	if e != api.OK || !consumer.Good(after) {
		t.Fatalf("End: %+v, %d", after, e)
	}
	return after
}

// noValidators and noTimes are numbers of none.
func noValidators() []int {
	return []int{math.MinInt, -api.Validators, -1, api.Validators, api.Validators + 1, 1 << 32, math.MaxInt}
}

func noTimes() []int {
	return []int{math.MinInt, -50, -1, api.MaxTime + 1, 1 << 62, math.MaxInt - 39, math.MaxInt}
}

// room is lists with spare room behind them, to be looked at again.
type room struct{ asIt []func() bool }

// untouched is whether all lists and their spare room are as they were.
func (r *room) untouched() bool {
	for _, was := range r.asIt {
		if !was() {
			return false
		}
	}
	return true
}

// widen is a list with spare room behind it.
func widen[E any](r *room, l []E, spare E) []E {
	whole := append(slices.Clone(l), spare, spare, spare)
	before := slices.Clone(whole)
	r.asIt = append(r.asIt, func() bool { return reflect.DeepEqual(whole, before) })
	return whole[:len(l)]
}

// roomy is a chain with spare room behind all its lists.
func roomy(c api.Consumer) (api.Consumer, *room) {
	r := &room{}
	power := api.Power{V: -77, N: -88}
	c.Set, c.Ripes = widen(r, c.Set, power), widen(r, c.Ripes, api.Ripe{Id: -77, Due: -88})
	c.Out.Said, c.Out.Due = widen(r, c.Out.Said, "spare"), widen(r, c.Out.Due, -77)
	c.Pending = slices.Clone(c.Pending)
	for i := range c.Pending {
		p := &c.Pending[i]
		p.Set, p.Done = widen(r, p.Set, power), widen(r, p.Done, -77)
	}
	c.Pending = widen(r, c.Pending, down(-77, -88, -99))
	return c, r
}

// call is a call of the package on a chain, with a number for whatever it takes, and a time.
type call struct {
	name string
	do   func(t *testing.T, c api.Consumer, a, now int) (api.Consumer, api.Errno)
}

// calls are all calls that change a chain and tell an error.
func calls() []call {
	return []call{
		{"Hear", func(t *testing.T, c api.Consumer, a, now int) (api.Consumer, api.Errno) {
			return consumer.Hear(c, text(t, change(12, allSix(3), 1, 2)))
		}},
		{"Hear of no packet", func(t *testing.T, c api.Consumer, a, now int) (api.Consumer, api.Errno) {
			return consumer.Hear(c, "no packet")
		}},
		{"Hear of no Change", func(t *testing.T, c api.Consumer, a, now int) (api.Consumer, api.Errno) {
			return consumer.Hear(c, text(t, matured(3)))
		}},
		{"End", func(t *testing.T, c api.Consumer, a, now int) (api.Consumer, api.Errno) {
			return consumer.End(c, now)
		}},
		{"Down", func(t *testing.T, c api.Consumer, a, now int) (api.Consumer, api.Errno) {
			return consumer.Down(c, a, now)
		}},
		{"Double", func(t *testing.T, c api.Consumer, a, now int) (api.Consumer, api.Errno) {
			return consumer.Double(c, a, 7, now)
		}},
		{"Double of no height", func(t *testing.T, c api.Consumer, a, now int) (api.Consumer, api.Errno) {
			return consumer.Double(c, a, 0, now)
		}},
	}
}
