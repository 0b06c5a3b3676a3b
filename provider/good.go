package provider

import (
	"suzerain/api"
	"suzerain/codec"
	"suzerain/line"
	"suzerain/stake"
)

// Good is whether a chain is one.
func Good(p api.Provider) bool {
	if !stake.Good(p.Stake) || p.Height < 0 || p.Height >= api.MaxTime || !isTime(p.Time) || !isSet(p.Set) {
		return false
	}
	for c := range p.Links {
		if !linkGood(&p.Links[c], p.Height) {
			return false
		}
	}
	for _, a := range p.Queue {
		if !isOn(&p, a.C) || a.P.Kind == api.Change || codec.Good(a.P) != api.OK {
			return false
		}
	}
	return true
}

// linkGood is whether a link of a chain of that height is one.
func linkGood(link *api.Link, height int) bool {
	if link.On && link.Gone || link.Base < 0 || link.Base > height {
		return false
	}
	return isSet(link.Told) && rises(link.Done) && line.Good(link.Out)
}

func isTime(n int) bool {
	return n >= 0 && n <= api.MaxTime
}

func isValidator(v int) bool {
	return v >= 0 && v < api.Validators
}

func isConsumer(c int) bool {
	return c >= 0 && c < api.Consumers
}

// isOn is whether there is such a consumer, and it is on.
func isOn(p *api.Provider, c int) bool {
	return isConsumer(c) && p.Links[c].On
}

// isSet is whether these are powers above 0 of validators that rise, each once.
func isSet(powers []api.Power) bool {
	last := -1
	for _, power := range powers {
		if power.V <= last || !isValidator(power.V) || power.N < 1 || power.N > api.MaxAmount {
			return false
		}
		last = power.V
	}
	return true
}

// rises is whether these are validators that rise, each once.
func rises(validators []int) bool {
	last := -1
	for _, v := range validators {
		if v <= last || !isValidator(v) {
			return false
		}
		last = v
	}
	return true
}
