package world

import (
	"slices"

	"suzerain/api"
)

// What a world answers is the caller's, who may write into any of its lists: so each of them is put together anew.

func copyProvider(p api.Provider) api.Provider {
	p.Stake.Waits = slices.Clone(p.Stake.Waits)
	p.Set = slices.Clone(p.Set)
	for c := range p.Links {
		link := &p.Links[c]
		link.Told = slices.Clone(link.Told)
		link.Done = slices.Clone(link.Done)
		link.Out = copyLine(link.Out)
	}
	p.Queue = slices.Clone(p.Queue)
	for i := range p.Queue {
		copyLists(&p.Queue[i].P)
	}
	return p
}

func copyConsumer(c api.Consumer) api.Consumer {
	c.Set = slices.Clone(c.Set)
	c.Pending = slices.Clone(c.Pending)
	for i := range c.Pending {
		copyLists(&c.Pending[i])
	}
	c.Ripes = slices.Clone(c.Ripes)
	c.Out = copyLine(c.Out)
	return c
}

func copyLine(l api.Line) api.Line {
	l.Said = slices.Clone(l.Said)
	l.Due = slices.Clone(l.Due)
	return l
}

// copyLists gives a packet lists of its own.
func copyLists(p *api.Packet) {
	p.Set = slices.Clone(p.Set)
	p.Done = slices.Clone(p.Done)
}
