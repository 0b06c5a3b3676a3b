package consumer

import (
	"suzerain/api"
	"suzerain/codec"
	"suzerain/line"
)

// Good is whether a chain is one.
func Good(c api.Consumer) bool {
	if c.On && c.Gone || c.Height < 0 || c.Height >= api.MaxTime || !isTime(c.Time) || !isTime(c.Id) {
		return false
	}
	return isSet(c.Set) && changesGood(c.Pending) && ripesGood(c.Ripes) && line.Good(c.Out)
}

// changesGood is whether these are good packets, and all of them Changes.
func changesGood(packets []api.Packet) bool {
	for _, p := range packets {
		if p.Kind != api.Change || codec.Good(p) != api.OK {
			return false
		}
	}
	return true
}

func ripesGood(ripes []api.Ripe) bool {
	for _, r := range ripes {
		if r.Id < 1 || r.Id > api.MaxTime || r.Due < 0 {
			return false
		}
	}
	return true
}

// refused is what a call on a chain says first.
func refused(c *api.Consumer) api.Errno {
	if !Good(*c) {
		return api.ErrRange
	}
	if !c.On {
		return api.ErrNone
	}
	return api.OK
}

// refusedAt is what a call that says something now says first: a wrong now comes ahead of a chain that is not on.
func refusedAt(c *api.Consumer, now int) api.Errno {
	if !isTime(now) {
		return api.ErrRange
	}
	return refused(c)
}

func isTime(n int) bool {
	return n >= 0 && n <= api.MaxTime
}

func isValidator(v int) bool {
	return v >= 0 && v < api.Validators
}

// isSet is whether these are powers above 0 of validators that rise, each once.
func isSet(powers []api.Power) bool {
	last := -1
	for _, p := range powers {
		if p.V <= last || !isValidator(p.V) || p.N < 1 || p.N > api.MaxAmount {
			return false
		}
		last = p.V
	}
	return true
}
