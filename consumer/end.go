package consumer

import (
	"slices"

	"suzerain/api"
	"suzerain/stake"
)

// End is the chain behind the end of its block.
func End(c api.Consumer, now int) (api.Consumer, api.Errno) {
	if e := refused(&c); e != api.OK {
		return c, e
	}
	if !isTime(now) || now < c.Time {
		return c, api.ErrRange
	}
	c.Height++
	c.Time = now
	// Ripes come behind these: the spare room of the list that was handed in is not ours.
	c.Ripes = slices.Clip(c.Ripes)
	for _, change := range c.Pending {
		take(&c, change)
	}
	c.Pending = nil
	sayRipe(&c)
	return c, api.OK
}

// take takes a change of the set in, as of the chain's time.
func take(c *api.Consumer, change api.Packet) {
	c.Set = stake.Apply(c.Set, change.Set)
	c.Id = change.Id
	for _, v := range change.Done {
		c.Flags[v] = false
	}
	c.Ripes = append(c.Ripes, api.Ripe{Id: change.Id, Due: c.Time + api.Mature})
}

// sayRipe says of the first changes that they are old enough. What cannot be said stays, and what is behind it: the
// provider must not hear of a change ahead of an older one.
func sayRipe(c *api.Consumer) {
	for len(c.Ripes) > 0 && c.Ripes[0].Due <= c.Time {
		if say(c, api.Packet{Kind: api.Matured, Id: c.Ripes[0].Id}, c.Time) != api.OK {
			return
		}
		c.Ripes = c.Ripes[1:]
	}
}
