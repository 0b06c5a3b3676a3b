package provider_test

import (
	"math"
	"reflect"
	"slices"
	"testing"

	"suzerain/api"
	"suzerain/codec"
	"suzerain/provider"
)

// mixed is a good chain with something everywhere. Its stake: 10 power on 0, 8 on a slashed 1, a dead 2, nothing on 3,
// 2 on a jailed 4, too little for a power on 5; unbondings of old blocks, held by both, by one and by none, and one of
// the open block, 10. Its consumers: 0 has been told of the set, but of neither an unbonding nor a downtime; 1 has
// been told of another set. Both have packets in the queue.
func mixed() api.Provider {
	return api.Provider{
		Height: 9, Time: 50,
		Stake: mixedStake(),
		Set:   []api.Power{{V: 0, N: 11}, {V: 1, N: 8}, {V: 4, N: 2}},
		Links: [api.Consumers]api.Link{
			{
				On: true, Base: 4, Told: []api.Power{{V: 0, N: 11}, {V: 1, N: 8}, {V: 4, N: 2}}, Fresh: true, Done: []int{4},
				Out:  api.Line{Said: []string{"a", "b"}, Due: []int{80, 85}, Got: 1},
				Seen: api.Head{Height: 7, Time: 48, Said: 3, Got: 1},
			},
			{
				On: true, Base: 7, Told: []api.Power{{V: 0, N: 10}, {V: 3, N: 1}}, Done: []int{1, 5},
				Out:  api.Line{Said: []string{"c"}, Due: []int{81}},
				Seen: api.Head{Height: 2, Time: 49, Said: 1},
			},
		},
		Meter: api.Meter{Left: 2, Next: 55},
		Queue: []api.Asked{
			{C: 0, P: matured(5)}, {C: 1, P: down(0)}, {C: 0, P: double(5, 1)}, {C: 1, P: matured(6)},
		},
	}
}

func mixedStake() api.Stake {
	return api.Stake{
		Bank: api.Bank{Free: [api.Delegators]int{99000, 99100, 99160, 100000}, Bonded: 2365, Waiting: 315, Burnt: 60},
		Validators: [api.Validators]api.Validator{
			{Tokens: 1000, Shares: 1000},
			{Tokens: 855, Shares: 900, Lost: 50},
			{Tokens: 200, Shares: 210, Lost: 10, Jailed: true, Dead: true},
			{},
			{Tokens: 250, Shares: 250, Jailed: true},
			{Tokens: 60, Shares: 60},
		},
		Shares: [api.Delegators][api.Validators]int{
			{700, 0, 0, 0, 0, 0},
			{300, 200, 0, 0, 250, 0},
			{0, 700, 0, 0, 0, 0},
			{0, 0, 210, 0, 0, 60},
		},
		Waits: []api.Wait{
			{Number: 1, D: 1, V: 1, Amount: 95, Height: 3, Due: 60, Holds: holds(3, 0)},
			{Number: 3, D: 0, V: 0, Amount: 120, Height: 6, Due: 65, Holds: holds(6, 6)},
			{Number: 4, D: 2, V: 1, Amount: 60, Height: 8, Due: 66},
			{Number: 7, D: 3, V: 0, Amount: 40, Height: 10, Due: 70, Holds: holds(10, 10)},
		},
		Next: 9,
	}
}

func holds(of0, of1 int) [api.Consumers]int { return [api.Consumers]int{of0, of1} }

func matured(id int) api.Packet { return api.Packet{Kind: api.Matured, Id: id} }

// down is a Down whose N is nobody's power, as the provider must not go by it.
func down(v int) api.Packet { return api.Packet{Kind: api.Down, Id: 1, V: v, N: 777} }

func double(id, v int) api.Packet { return api.Packet{Kind: api.Double, Id: id, V: v, N: 777} }

// with is the mixed chain behind a change.
func with(change func(p *api.Provider)) api.Provider {
	p := mixed()
	change(&p)
	return p
}

// calm is the mixed chain with nothing to deal with and nothing to tell, at the end of a block that changes nothing.
func calm() api.Provider {
	return with(func(p *api.Provider) {
		p.Set = []api.Power{{V: 0, N: 10}, {V: 1, N: 8}}
		p.Queue = nil
		for c := range p.Links {
			p.Links[c].Told = slices.Clone(p.Set)
			p.Links[c].Fresh, p.Links[c].Done = false, nil
		}
	})
}

// calmWith is the calm chain behind a change.
func calmWith(change func(p *api.Provider)) api.Provider {
	p := calm()
	change(&p)
	return p
}

// free is the mixed chain where both consumers are nothing yet.
func free() api.Provider {
	return with(func(p *api.Provider) {
		p.Links = [api.Consumers]api.Link{}
		p.Queue = nil
		for i := range p.Stake.Waits {
			p.Stake.Waits[i].Holds = holds(0, 0)
		}
	})
}

// text is a packet's bytes.
func text(t *testing.T, packet api.Packet) string {
	t.Helper()
	s, e := codec.Encode(packet)
	if e != api.OK {
		t.Fatalf("%v cannot be encoded: %d", packet, e)
	}
	return s
}

// tidy is a list that is nil, if it has no elements.
func tidy[E any](l []E) []E {
	if len(l) == 0 {
		return nil
	}
	return l
}

func tidyPacket(packet api.Packet) api.Packet {
	packet.Set, packet.Done = tidy(packet.Set), tidy(packet.Done)
	return packet
}

func tidyChain(p api.Provider) api.Provider {
	p.Stake.Waits, p.Set = tidy(p.Stake.Waits), tidy(p.Set)
	p.Queue = tidy(slices.Clone(p.Queue))
	for i := range p.Queue {
		p.Queue[i].P = tidyPacket(p.Queue[i].P)
	}
	for c := range p.Links {
		link := &p.Links[c]
		link.Told, link.Done = tidy(link.Told), tidy(link.Done)
		link.Out.Said, link.Out.Due = tidy(link.Out.Said), tidy(link.Out.Due)
	}
	return p
}

// same is whether two chains are alike; nil or not is no matter.
func same(a, b api.Provider) bool {
	return reflect.DeepEqual(tidyChain(a), tidyChain(b))
}

func check(t *testing.T, what string, p api.Provider, e api.Errno, want api.Provider, code api.Errno) {
	t.Helper()
	if !same(p, want) || e != code {
		t.Errorf("%s: %+v, %d; want %+v, %d", what, p, e, want, code)
	}
	if e == api.OK && !provider.Good(p) {
		t.Errorf("%s: %+v is not good", what, p)
	}
}

// noValidators, noDelegators, noConsumers and noTimes are numbers of none.
func noValidators() []int {
	return []int{math.MinInt, -api.Validators, -1, api.Validators, api.Validators + 1, 1 << 32, math.MaxInt}
}

func noDelegators() []int {
	return []int{math.MinInt, -api.Delegators, -1, api.Delegators, api.Delegators + 1, 1 << 32, math.MaxInt}
}

func noConsumers() []int {
	return []int{math.MinInt, -api.Consumers, -1, api.Consumers, api.Consumers + 1, 1 << 32, math.MaxInt}
}

func noTimes() []int {
	return []int{math.MinInt, -50, -1, api.MaxTime + 1, 1 << 62, math.MaxInt}
}

// room is lists with spare room behind them, to be looked at again.
type room struct{ asIt []func() bool }

// untouched is whether all lists and their spare room are as they were.
func (r *room) untouched() bool {
	for _, was := range r.asIt {
		if !was() {
			return false
		}
	}
	return true
}

// widen is a list with spare room behind it.
func widen[E any](r *room, l []E, spare E) []E {
	whole := append(slices.Clone(l), spare, spare, spare)
	before := slices.Clone(whole)
	r.asIt = append(r.asIt, func() bool { return reflect.DeepEqual(whole, before) })
	return whole[:len(l)]
}

// roomy is a chain with spare room behind all its lists.
func roomy(p api.Provider) (api.Provider, *room) {
	r := &room{}
	power := api.Power{V: -77, N: -88}
	p.Stake.Waits = widen(r, p.Stake.Waits, api.Wait{Number: -77, Amount: -88})
	p.Set = widen(r, p.Set, power)
	for c := range p.Links {
		link := &p.Links[c]
		link.Told, link.Done = widen(r, link.Told, power), widen(r, link.Done, -77)
		link.Out.Said, link.Out.Due = widen(r, link.Out.Said, "spare"), widen(r, link.Out.Due, -77)
	}
	p.Queue = slices.Clone(p.Queue)
	for i := range p.Queue {
		packet := &p.Queue[i].P
		packet.Set, packet.Done = widen(r, packet.Set, power), widen(r, packet.Done, -77)
	}
	p.Queue = widen(r, p.Queue, api.Asked{C: -77, P: down(-88)})
	return p, r
}

// call is a call of the package on a chain, with two numbers for whatever it takes.
type call struct {
	name string
	do   func(t *testing.T, p api.Provider, a, b int) (api.Provider, api.Errno)
}

// calls are all calls that change a chain; of Remove no error is told.
func calls() []call {
	return []call{
		{"Delegate", func(t *testing.T, p api.Provider, a, b int) (api.Provider, api.Errno) {
			return provider.Delegate(p, a, a, b)
		}},
		{"Undelegate", func(t *testing.T, p api.Provider, a, b int) (api.Provider, api.Errno) {
			return provider.Undelegate(p, a, a, b, 50)
		}},
		{"Begin", func(t *testing.T, p api.Provider, a, b int) (api.Provider, api.Errno) { return provider.Begin(p, a) }},
		{"Remove", func(t *testing.T, p api.Provider, a, b int) (api.Provider, api.Errno) {
			return provider.Remove(p, a), api.OK
		}},
		{"Hear", func(t *testing.T, p api.Provider, a, b int) (api.Provider, api.Errno) {
			return provider.Hear(p, a, text(t, matured(5)))
		}},
		{"Hear of no packet", func(t *testing.T, p api.Provider, a, b int) (api.Provider, api.Errno) {
			return provider.Hear(p, a, "no packet")
		}},
		{"Evidence", func(t *testing.T, p api.Provider, a, b int) (api.Provider, api.Errno) {
			return provider.Evidence(p, a, b)
		}},
		{"End", func(t *testing.T, p api.Provider, a, b int) (api.Provider, api.Errno) { return end(t, p, b) }},
	}
}

// end is End without what was paid, which must be nothing with an error.
func end(t *testing.T, p api.Provider, now int) (api.Provider, api.Errno) {
	t.Helper()
	after, paid, e := provider.End(p, now)
	if e != api.OK && len(paid) != 0 {
		t.Errorf("End: %v is paid with the error %d", paid, e)
	}
	return after, e
}
