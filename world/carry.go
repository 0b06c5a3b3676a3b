package world

import (
	"suzerain/api"
	"suzerain/codec"
	"suzerain/consumer"
	"suzerain/line"
	"suzerain/provider"
)

// way is one way between the provider and a consumer: its line, and what its sender and its receiver have seen of each
// other.
type way struct {
	line                         *api.Line
	seenBySender, seenByReceiver *api.Head
}

// wayOf is the way to a consumer, or the one back from it.
func (w *World) wayOf(c int, back bool) way {
	at, link := &w.consumers[c], &w.provider.Links[c]
	if back {
		return way{line: &at.Out, seenBySender: &at.Seen, seenByReceiver: &link.Seen}
	}
	return way{line: &link.Out, seenBySender: &link.Seen, seenByReceiver: &at.Seen}
}

// show shows a consumer the provider's head, or the other way round.
func (w *World) show(c int, back bool) {
	heads := &w.heads[c]
	if back {
		w.provider.Links[c].Seen = heads.consumer
	} else {
		w.consumers[c].Seen = heads.provider
	}
}

// deliver carries the next packet of a line, or a forged one in its stead; how many have come then.
func (w *World) deliver(c int, back, forged bool) (int, api.Errno) {
	on := w.wayOf(c, back)
	text := next(on.line)
	if forged {
		text = forgery(text)
	}
	came, e := line.Deliver(*on.line, on.line.Got+1, text, on.seenByReceiver.Said, w.clock)
	if e != api.OK {
		return 0, e
	}
	if e := w.hear(c, back, text); e != api.OK {
		return 0, e
	}
	// Only now: what was not heard did not come.
	*on.line = came
	return came.Got, api.OK
}

// next is the packet that has not come yet and is to come first; empty, if there is none.
func next(l *api.Line) string {
	if l.Got >= len(l.Said) {
		return ""
	}
	return l.Said[l.Got]
}

// forgery is what a forger says instead of a packet. It may happen to be the packet itself.
func forgery(text string) string {
	// Not refused: a text has far fewer bytes than an amount may count.
	s, _ := codec.Encode(api.Packet{Kind: api.Down, Id: 1, V: 0, N: len(text) + 1})
	return s
}

// hear lets whoever a packet is for hear it. With an error all is answered as it was.
func (w *World) hear(c int, back bool, text string) (e api.Errno) {
	if back {
		w.provider, e = provider.Hear(w.provider, c, text)
	} else {
		w.consumers[c], e = consumer.Hear(w.consumers[c], text)
	}
	return e
}

// expire shows that the k-th packet of a line did not come in time, which ends the consumer.
func (w *World) expire(c int, back bool, k int) api.Errno {
	on := w.wayOf(c, back)
	closed, e := line.Expire(*on.line, k, on.seenBySender.Time, on.seenBySender.Got)
	if e != api.OK {
		return e
	}
	*on.line = closed
	w.provider = provider.Remove(w.provider, c)
	w.consumers[c] = consumer.Remove(w.consumers[c])
	return api.OK
}
