package world_test

import (
	"reflect"
	"slices"
	"testing"

	"suzerain/api"
	"suzerain/world"
)

// spoil writes into a list, and into its spare room.
func spoil[E any](l []E, bad E) int {
	n := len(l)
	l = l[:cap(l)]
	for i := range l {
		l[i] = bad
	}
	return n
}

func spoilPackets(l []api.Packet) int {
	n := 0
	for i := range l {
		n += spoil(l[i].Set, api.Power{V: -77, N: -88}) + spoil(l[i].Done, -77)
	}
	return n + spoil(l, api.Packet{Kind: -77})
}

func spoilLine(l *api.Line) int {
	n := spoil(l.Said, "spoilt") + spoil(l.Due, -77)
	*l = api.Line{Said: append(l.Said, "spoilt"), Due: append(l.Due, -77), Got: -1, Closed: true}
	return n
}

// spoilAll writes into all that a world has answered; how many elements that were.
func spoilAll(a whole) int {
	power, p := api.Power{V: -77, N: -88}, &a.Provider
	n := spoil(p.Stake.Waits, api.Wait{Number: -77}) + spoil(p.Set, power)
	for i := range p.Links {
		n += spoil(p.Links[i].Told, power) + spoil(p.Links[i].Done, -77) + spoilLine(&p.Links[i].Out)
	}
	for i := range p.Queue {
		n += spoil(p.Queue[i].P.Set, power) + spoil(p.Queue[i].P.Done, -77)
	}
	n += spoil(p.Queue, api.Asked{C: -77})
	for i := range a.Consumers {
		c := &a.Consumers[i]
		n += spoil(c.Set, power) + spoil(c.Ripes, api.Ripe{Id: -77}) + spoilPackets(c.Pending) + spoilLine(&c.Out)
	}
	return n
}

// P9.1: what a world answers is the caller's: whatever is written into it is not seen in the world, at no time.
func TestAnswersAreTheCallers(t *testing.T) {
	deeds := append(busy(), provide(), consume(0), consume(1), tick(30), provide(), consume(0), back(heads(0)), back(deliver(0)), provide())
	spoilt, left := world.New(), world.New()
	for i, d := range deeds {
		n := spoilAll(look(spoilt))
		if a, b := spoilt.Do(d), left.Do(d); a != b {
			t.Fatalf("deed %d, %+v: %+v; want %+v", i, d, a, b)
		}
		if a, b := look(spoilt), look(left); !same(a, b) {
			t.Fatalf("deed %d, %+v: %+v; want %+v", i, d, a, b)
		}
		if i == len(busy()) && n < 30 {
			t.Errorf("there was too little to write into: %d", n)
		}
	}
}

// P9.1: what a world has answered stays, whatever is done to it later.
func TestAnswersStay(t *testing.T) {
	deeds := append(busy(), provide(), tick(30), provide(), consume(0), consume(1), heads(1), back(heads(1)), back(deliver(1)), provide())
	w := world.New()
	var answered, then []whole
	for _, d := range deeds {
		a := look(w)
		answered, then = append(answered, a), append(then, a.tidy())
		w.Do(d)
	}
	for i := range answered {
		if !same(answered[i], then[i]) {
			t.Errorf("what was answered ahead of deed %d became %+v", i, answered[i])
		}
	}
}

// P9.1: no two lists of what is answered are one.
func TestAnswersAreApart(t *testing.T) {
	w := made(t, append(busy(), provide())...)
	p := w.Provider()
	before := tidyProvider(p)
	spoil(p.Set, api.Power{V: -77})
	for i := range p.Links {
		if !slices.Equal(p.Links[i].Told, before.Links[i].Told) || len(p.Links[i].Told) == 0 {
			t.Errorf("Told of %d is Set: %v", i, p.Links[i].Told)
		}
	}
	spoil(p.Links[0].Told, api.Power{V: -88})
	if !slices.Equal(p.Links[1].Told, before.Links[1].Told) {
		t.Errorf("both Told are one: %v", p.Links[1].Told)
	}
	a, b := w.Consumer(1), w.Consumer(1)
	spoil(a.Set, api.Power{V: -77})
	if !reflect.DeepEqual(tidyConsumer(b), tidyConsumer(w.Consumer(1))) {
		t.Errorf("two answers are one: %+v", b)
	}
}

// P9.8: the deeds and the spare room behind them are not changed, and the replies are the caller's.
func TestRunLists(t *testing.T) {
	room := append(busy(), tick(77), tick(88), tick(99))
	before := slices.Clone(room)
	deeds := room[:len(busy())]
	first, _ := world.Run(deeds)
	if !slices.Equal(room, before) {
		t.Errorf("Run changed what it was handed: %v", room)
	}
	want := slices.Clone(first)
	spoil(first, api.Reply{Code: -77})
	if second, _ := world.Run(deeds); !slices.Equal(second, want) || !slices.Equal(room, before) {
		t.Errorf("Run: %v; want %v", second, want)
	}
}
