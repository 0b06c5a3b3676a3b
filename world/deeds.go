package world

import (
	"suzerain/api"
	"suzerain/consumer"
	"suzerain/provider"
	"suzerain/stake"
)

// perform is what comes of a deed of any kind. With an error nothing has happened.
func (w *World) perform(d api.Deed) (int, api.Errno) {
	switch d.Kind {
	case api.DeedDelegate, api.DeedUndelegate, api.DeedUnjail, api.DeedEvidence:
		return 0, w.atProvider(d)
	case api.DeedTick:
		return w.tick(d.N)
	case api.DeedProvide:
		return w.provide()
	case api.DeedBegin:
		return w.begin(d.C)
	case api.DeedConsume, api.DeedHeads, api.DeedDown, api.DeedDouble, api.DeedDeliver, api.DeedExpire:
		if !isConsumer(d.C) || !w.consumers[d.C].On {
			return 0, api.ErrNone
		}
		return w.withConsumer(d)
	}
	return 0, api.ErrKind
}

// atProvider is a deed in the provider's open block. With an error the provider is answered as it was.
func (w *World) atProvider(d api.Deed) (e api.Errno) {
	p := &w.provider
	switch d.Kind {
	case api.DeedDelegate:
		*p, e = provider.Delegate(*p, d.D, d.V, d.N)
	case api.DeedUndelegate:
		*p, e = provider.Undelegate(*p, d.D, d.V, d.N, w.clock)
	case api.DeedUnjail:
		p.Stake, e = stake.Unjail(p.Stake, d.V)
	case api.DeedEvidence:
		*p, e = provider.Evidence(*p, d.V, d.N)
	}
	return e
}

// withConsumer is a deed with a consumer that is on.
func (w *World) withConsumer(d api.Deed) (int, api.Errno) {
	switch d.Kind {
	case api.DeedConsume:
		return 0, w.consume(d.C)
	case api.DeedHeads:
		w.show(d.C, d.Back)
	case api.DeedDeliver:
		return w.deliver(d.C, d.Back, d.Forged)
	case api.DeedExpire:
		return 0, w.expire(d.C, d.Back, d.N)
	case api.DeedDown, api.DeedDouble:
		return 0, w.accuse(d)
	}
	return 0, api.OK
}

// tick lets time pass, but not so much that a packet's end could be no time.
func (w *World) tick(n int) (int, api.Errno) {
	// Asked so, as no sum with n is safe: it may be any number.
	if n < 1 || n > api.MaxTime-api.Timeout-w.clock {
		return 0, api.ErrRange
	}
	w.clock += n
	return w.clock, api.OK
}

// provide ends the provider's block.
func (w *World) provide() (int, api.Errno) {
	p, paid, e := provider.End(w.provider, w.clock)
	if e != api.OK {
		return 0, e
	}
	w.provider = p
	for c := range w.heads {
		w.heads[c].provider = api.Head{
			Height: p.Height, Time: p.Time, Said: len(p.Links[c].Out.Said), Got: w.consumers[c].Out.Got,
		}
	}
	return len(paid), api.OK
}

// begin lets a consumer begin with the provider's set.
func (w *World) begin(c int) (int, api.Errno) {
	if !isConsumer(c) {
		return 0, api.ErrNone
	}
	p, e := provider.Begin(w.provider, c)
	if e != api.OK {
		return 0, e
	}
	w.provider = p
	w.consumers[c] = consumer.Begin(p.Set, p.Height, w.clock)
	// Neither has ended a block since they know each other.
	w.heads[c] = pair{}
	return p.Height, api.OK
}

// consume ends a consumer's block.
func (w *World) consume(i int) api.Errno {
	c, e := consumer.End(w.consumers[i], w.clock)
	if e != api.OK {
		return e
	}
	w.consumers[i] = c
	w.heads[i].consumer = api.Head{
		Height: c.Height, Time: c.Time, Said: len(c.Out.Said), Got: w.provider.Links[i].Out.Got,
	}
	return api.OK
}

// accuse lets a consumer tell of a validator. With an error the consumer is answered as it was.
func (w *World) accuse(d api.Deed) (e api.Errno) {
	c := &w.consumers[d.C]
	if d.Kind == api.DeedDown {
		*c, e = consumer.Down(*c, d.V, w.clock)
	} else {
		*c, e = consumer.Double(*c, d.V, d.N, w.clock)
	}
	return e
}
