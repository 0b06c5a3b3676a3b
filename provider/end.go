package provider

import (
	"slices"

	"suzerain/api"
	"suzerain/codec"
	"suzerain/line"
	"suzerain/meter"
	"suzerain/stake"
)

// End is the chain behind the end of its block, and what was paid.
func End(p api.Provider, now int) (api.Provider, []int, api.Errno) {
	if !Good(p) || !isTime(now) || now < p.Time {
		return p, nil, api.ErrRange
	}
	next := p
	next.Height++
	next.Time = now
	next.Meter = meter.Tick(p.Meter, stake.All(p.Set), now)
	dealWithQueue(&next)
	s, paid, e := stake.Pay(next.Stake, now)
	if e != api.OK {
		return p, nil, e
	}
	next.Stake, next.Set = s, stake.Set(s)
	for c := range next.Links {
		tell(&next, &next.Links[c])
	}
	return next, paid, api.OK
}

// dealWithQueue deals with what may be dealt with. Behind a packet that waits all of its consumer wait, too: dealt
// with out of their order, a Matured could free what an earlier one would still burn.
func dealWithQueue(p *api.Provider) {
	var waits [api.Consumers]bool
	var left []api.Asked
	for _, a := range p.Queue {
		if waits[a.C] || !deal(p, a) {
			waits[a.C] = true
			left = append(left, a)
		}
	}
	p.Queue = left
}

// deal deals with a packet of a consumer; false: it waits, and nothing changed.
func deal(p *api.Provider, a api.Asked) bool {
	link := &p.Links[a.C]
	switch a.P.Kind {
	case api.Matured:
		p.Stake = stake.Release(p.Stake, a.C, a.P.Id)
	case api.Down:
		return dealWithDown(p, link, a.P.V)
	case api.Double:
		if !p.Stake.Validators[a.P.V].Dead {
			// What was unbonded ahead of its beginning never stood behind the consumer, whatever height it tells.
			punish(p, a.P.V, max(a.P.Id, link.Base))
		}
	}
	return true
}

// dealWithDown jails a validator, if the meter lets it, and notes that its consumer is to be told; false: it does not.
func dealWithDown(p *api.Provider, link *api.Link, v int) bool {
	at := &p.Stake.Validators[v]
	if !at.Jailed {
		// The validator's own power: the packet's N is only what the consumer says.
		m, may := meter.Take(p.Meter, max(at.Tokens/api.Unit, 1))
		if !may {
			return false
		}
		p.Meter = m
		// Not refused: the stake is good, and the validator is not jailed.
		p.Stake, _ = stake.Jail(p.Stake, v)
	}
	link.Done = withValidator(link.Done, v)
	return true
}

// withValidator is validators that rise with one more, which is there but once.
func withValidator(validators []int, v int) []int {
	if slices.Contains(validators, v) {
		return validators
	}
	l := append(slices.Clip(validators), v)
	slices.Sort(l)
	return l
}

// punish burns a part of all that stood behind what a validator signed twice, from a height on, and buries it.
func punish(p *api.Provider, v, height int) {
	// Neither is refused: the stake is good, and the validator is not dead.
	p.Stake, _, _ = stake.Slash(p.Stake, v, height, api.Major)
	p.Stake, _ = stake.Bury(p.Stake, v)
}

// tell tells a consumer that is on how the set changed, if there is anything to tell.
func tell(p *api.Provider, link *api.Link) {
	if !link.On || slices.Equal(link.Told, p.Set) && !link.Fresh && len(link.Done) == 0 {
		return
	}
	change := api.Packet{Kind: api.Change, Id: p.Height, Set: stake.Diff(link.Told, p.Set), Done: link.Done}
	s, e := codec.Encode(change)
	if e != api.OK {
		return
	}
	out, e := line.Say(link.Out, s, p.Time+api.Timeout)
	if e != api.OK {
		// Nothing is forgotten that was not told.
		return
	}
	link.Out = out
	link.Told = slices.Clone(p.Set)
	link.Fresh, link.Done = false, nil
}
