package line_test

import (
	"math"
	"slices"
	"strings"
	"testing"

	"suzerain/api"
	"suzerain/line"
)

// mixed is a good line of which one packet came: a text twice, an empty one, and times that do not rise.
func mixed() api.Line {
	return api.Line{Said: []string{"a", "b", "", "b"}, Due: []int{10, 20, 15, 0}, Got: 1}
}

// with is the mixed line behind a change.
func with(change func(l *api.Line)) api.Line {
	l := mixed()
	change(&l)
	return l
}

// said is a good line of n packets, none of which came.
func said(n int) api.Line {
	var l api.Line
	for i := range n {
		l.Said = append(l.Said, string(rune('a'+i%26)))
		l.Due = append(l.Due, i)
	}
	return l
}

// got is a line of which so many came.
func got(l api.Line, n int) api.Line {
	l.Got = n
	return l
}

// closed is a line that is closed.
func closed(l api.Line) api.Line {
	l.Closed = true
	return l
}

// goodLines are ordinary lines, and those at the edges of what is good.
func goodLines() []api.Line {
	return []api.Line{
		{}, {Said: []string{}, Due: []int{}}, {Said: []string{}}, {Due: []int{}},
		mixed(), got(mixed(), 0), got(mixed(), 4), got(said(1), 1),
		said(api.MaxSaid - 1), said(api.MaxSaid), got(said(api.MaxSaid), api.MaxSaid),
		closed(api.Line{}), closed(mixed()), closed(got(said(api.MaxSaid), api.MaxSaid)),
		with(func(l *api.Line) { l.Due = []int{math.MaxInt, 0, 0, math.MaxInt} }),
		with(func(l *api.Line) { l.Said = []string{"", "", "", strings.Repeat("\xff\x00", 5000)} }),
	}
}

// badLines are lines with one thing wrong each.
func badLines() map[string]api.Line {
	return map[string]api.Line{
		"a due less":               with(func(l *api.Line) { l.Due = l.Due[:3] }),
		"a due more":               with(func(l *api.Line) { l.Due = append(l.Due, 30) }),
		"no due":                   {Said: []string{"a"}},
		"nothing but a due":        {Due: []int{10}},
		"one packet too many":      said(api.MaxSaid + 1),
		"far too many packets":     said(5000),
		"too many dues":            {Due: make([]int, api.MaxSaid+1)},
		"the first due below 0":    with(func(l *api.Line) { l.Due[0] = -1 }),
		"a due below 0":            with(func(l *api.Line) { l.Due[2] = -1 }),
		"the last due below 0":     with(func(l *api.Line) { l.Due[3] = -1 }),
		"the least due":            with(func(l *api.Line) { l.Due[1] = math.MinInt }),
		"got below 0":              got(mixed(), -1),
		"the least got":            got(mixed(), math.MinInt),
		"got of nothing below 0":   {Got: -1},
		"got more than were said":  got(mixed(), 5),
		"got one of nothing":       {Got: 1},
		"the greatest got":         got(mixed(), math.MaxInt),
		"got more than may be":     got(said(api.MaxSaid), api.MaxSaid+1),
		"got of a line of MaxSaid": got(mixed(), api.MaxSaid),
	}
}

// same is whether two lines are alike; nil or not is no matter.
func same(a, b api.Line) bool {
	return slices.Equal(a.Said, b.Said) && slices.Equal(a.Due, b.Due) && a.Got == b.Got && a.Closed == b.Closed
}

func check(t *testing.T, what string, l api.Line, e api.Errno, want api.Line, code api.Errno) {
	t.Helper()
	if !same(l, want) || e != code {
		t.Errorf("%s: %v, %d; want %v, %d", what, l, e, want, code)
	}
	if e == api.OK && !line.Good(l) {
		t.Errorf("%s: %v is not good", what, l)
	}
}

// P5.1
func TestGood(t *testing.T) {
	for i, l := range goodLines() {
		if !line.Good(l) {
			t.Errorf("%d: %v is good", i, l)
		}
	}
	for name, l := range badLines() {
		if line.Good(l) {
			t.Errorf("%s: %v is not good", name, l)
		}
	}
}

// checkAll asks for one error of all calls: with arguments that are right, and with those that have errors of their own.
func checkAll(t *testing.T, what string, l api.Line, code api.Errno) {
	t.Helper()
	for _, due := range []int{0, 10, math.MaxInt} {
		after, e := line.Say(l, "c", due)
		check(t, "Say of "+what, after, e, l, code)
	}
	for _, k := range []int{math.MinInt, -1, 0, 1, 2, 3, 5, 6, api.MaxSaid + 1, math.MaxInt} {
		for _, n := range []int{math.MinInt, 0, 5, math.MaxInt} {
			for _, s := range []string{"", "a", "b"} {
				after, e := line.Deliver(l, k, s, n, 5)
				check(t, "Deliver of "+what, after, e, l, code)
				after, e = line.Deliver(l, k, s, 5, n)
				check(t, "Deliver of "+what, after, e, l, code)
			}
			after, e := line.Expire(l, k, n, 0)
			check(t, "Expire of "+what, after, e, l, code)
			after, e = line.Expire(l, k, 20, n)
			check(t, "Expire of "+what, after, e, l, code)
		}
	}
}

// P5.1: that a line is not good comes ahead of all else, of its being closed, too.
func TestABadLineComesFirst(t *testing.T) {
	for name, l := range badLines() {
		checkAll(t, name, l, api.ErrRange)
		checkAll(t, name+", closed", closed(l), api.ErrRange)
		after, e := line.Say(l, "c", -1)
		check(t, "Say of "+name, after, e, l, api.ErrRange)
	}
}

// P5.1: that a line is closed comes next, ahead of its being full.
func TestAClosedLineComesNext(t *testing.T) {
	for _, l := range goodLines() {
		checkAll(t, "a closed line", closed(l), api.ErrGone)
	}
}

// P5.1: of Say a due below 0 comes ahead of a line that is closed or full.
func TestSayOfADueBelowZero(t *testing.T) {
	for _, l := range goodLines() {
		for _, due := range []int{-1, -10, math.MinInt} {
			after, e := line.Say(l, "c", due)
			check(t, "Say", after, e, l, api.ErrRange)
			after, e = line.Say(closed(l), "c", due)
			check(t, "Say", after, e, closed(l), api.ErrRange)
		}
	}
}

// P5.2
func TestSay(t *testing.T) {
	for _, x := range []struct {
		s   string
		due int
	}{{"c", 40}, {"c", 0}, {"", 1}, {"b", math.MaxInt}, {"\x00\xff", api.MaxTime + api.Timeout}, {strings.Repeat("long", 5000), 7}} {
		l, e := line.Say(mixed(), x.s, x.due)
		want := api.Line{Said: []string{"a", "b", "", "b", x.s}, Due: []int{10, 20, 15, 0, x.due}, Got: 1}
		check(t, "Say", l, e, want, api.OK)
		for _, empty := range []api.Line{{}, {Said: []string{}, Due: []int{}}} {
			l, e = line.Say(empty, x.s, x.due)
			check(t, "Say of the first", l, e, api.Line{Said: []string{x.s}, Due: []int{x.due}}, api.OK)
		}
	}
}

// P5.2
func TestSayUpToMaxSaid(t *testing.T) {
	var l api.Line
	for i := range api.MaxSaid {
		after, e := line.Say(l, string(rune('a'+i%26)), i)
		check(t, "Say", after, e, said(i+1), api.OK)
		l = after
	}
	for _, full := range []api.Line{l, got(l, 1), got(l, api.MaxSaid)} {
		after, e := line.Say(full, "z", 500)
		check(t, "Say of a full line", after, e, full, api.ErrFull)
	}
}

// P5.3
func TestDeliver(t *testing.T) {
	for _, x := range []struct {
		before    api.Line
		k         int
		s         string
		said, now int
		code      api.Errno
		what      string
	}{
		{mixed(), 2, "b", 4, 5, api.OK, "the next one"},
		{mixed(), 2, "b", 2, 5, api.OK, "the last that is known to be said"},
		{mixed(), 2, "b", math.MaxInt, 5, api.OK, "more known than said"},
		{mixed(), 2, "b", 2, 19, api.OK, "just in time"},
		{mixed(), 2, "b", 2, math.MinInt, api.OK, "the least time"},
		{got(mixed(), 0), 1, "a", 1, 9, api.OK, "the first one"},
		{got(mixed(), 2), 3, "", 3, 14, api.OK, "an empty text"},
		{got(said(api.MaxSaid), api.MaxSaid-1), api.MaxSaid, "j", api.MaxSaid, api.MaxSaid - 2, api.OK, "the last of all"},

		{mixed(), 1, "a", 4, 5, api.ErrOrder, "what came already"},
		{mixed(), 3, "", 4, 5, api.ErrOrder, "one too far"},
		{mixed(), 0, "b", 4, 5, api.ErrOrder, "k of 0"},
		{mixed(), -2, "b", 4, 5, api.ErrOrder, "k below 0"},
		{mixed(), math.MinInt, "b", 4, 5, api.ErrOrder, "the least k"},
		{mixed(), math.MaxInt, "b", math.MaxInt, 5, api.ErrOrder, "the greatest k"},
		{api.Line{}, 0, "", 0, 0, api.ErrOrder, "k of 0 of an empty line"},
		{got(mixed(), 4), 4, "b", 4, -1, api.ErrOrder, "the last one again"},
		{mixed(), 3, "x", 0, 99, api.ErrOrder, "order ahead of proof and lateness"},

		{mixed(), 2, "b", 1, 5, api.ErrProof, "one less known"},
		{mixed(), 2, "b", 0, 5, api.ErrProof, "nothing known"},
		{mixed(), 2, "b", -1, 5, api.ErrProof, "known below 0"},
		{mixed(), 2, "b", math.MinInt, 5, api.ErrProof, "the least known"},
		{mixed(), 2, "a", 4, 5, api.ErrProof, "the packet ahead"},
		{mixed(), 2, "", 4, 5, api.ErrProof, "the packet behind"},
		{mixed(), 2, "bb", 4, 5, api.ErrProof, "a longer text"},
		{mixed(), 2, "B", 4, 5, api.ErrProof, "another text"},
		{got(mixed(), 2), 3, "b", 4, 5, api.ErrProof, "a text for an empty one"},
		{api.Line{}, 1, "", 1, 0, api.ErrProof, "the first of an empty line"},
		{got(mixed(), 4), 5, "", 5, 0, api.ErrProof, "more than were said"},
		{got(mixed(), 4), 5, "b", math.MaxInt, 0, api.ErrProof, "more than were said, all known"},
		{got(said(api.MaxSaid), api.MaxSaid), api.MaxSaid + 1, "", api.MaxSaid + 1, 0, api.ErrProof, "more than may be said"},
		{mixed(), 2, "a", 4, 20, api.ErrProof, "another text ahead of lateness"},
		{mixed(), 2, "b", 1, 20, api.ErrProof, "less known ahead of lateness"},

		{mixed(), 2, "b", 4, 20, api.ErrLate, "just too late"},
		{mixed(), 2, "b", 4, 21, api.ErrLate, "too late"},
		{mixed(), 2, "b", 4, math.MaxInt, api.ErrLate, "the greatest time"},
		{got(mixed(), 3), 4, "b", 4, 0, api.ErrLate, "too late from the beginning on"},
		{got(mixed(), 3), 4, "b", 4, 5, api.ErrLate, "a time of its own"},
	} {
		want := x.before
		if x.code == api.OK {
			want = got(x.before, x.k)
		}
		l, e := line.Deliver(x.before, x.k, x.s, x.said, x.now)
		check(t, "Deliver of "+x.what, l, e, want, x.code)
	}
}

// P5.4
func TestExpire(t *testing.T) {
	for _, x := range []struct {
		before       api.Line
		k, time, got int
		code         api.Errno
		what         string
	}{
		{mixed(), 2, 20, 1, api.OK, "just too late"},
		{mixed(), 2, 21, 0, api.OK, "too late"},
		{mixed(), 2, math.MaxInt, math.MinInt, api.OK, "the greatest time, and the least got"},
		{mixed(), 2, 20, -1, api.OK, "got below 0"},
		{mixed(), 3, 15, 2, api.OK, "one that is not the next"},
		{mixed(), 4, 0, 3, api.OK, "the last one, at 0"},
		{mixed(), 1, 10, 0, api.OK, "what came, and is not known to have come"},
		{got(mixed(), 4), 4, 5, 3, api.OK, "the last one that came"},
		{said(api.MaxSaid), api.MaxSaid, api.MaxSaid - 1, api.MaxSaid - 1, api.OK, "the last of all"},

		{mixed(), 0, 99, 0, api.ErrNone, "k of 0"},
		{mixed(), 0, 99, -1, api.ErrNone, "k of 0, got below"},
		{mixed(), -1, 99, -2, api.ErrNone, "k below 0"},
		{mixed(), math.MinInt, 99, 0, api.ErrNone, "the least k"},
		{mixed(), 5, 99, 0, api.ErrNone, "one more than were said"},
		{mixed(), math.MaxInt, 99, 0, api.ErrNone, "the greatest k"},
		{api.Line{}, 1, 99, 0, api.ErrNone, "the first of an empty line"},
		{said(api.MaxSaid), api.MaxSaid + 1, 999, 0, api.ErrNone, "more than may be said"},
		{mixed(), 5, -1, 9, api.ErrNone, "none, ahead of all else"},
		{mixed(), 0, -1, 9, api.ErrNone, "none, ahead of all else"},

		{mixed(), 2, 20, 2, api.ErrTwice, "what came"},
		{mixed(), 1, 99, 2, api.ErrTwice, "what came, and one behind it"},
		{mixed(), 2, 99, math.MaxInt, api.ErrTwice, "the greatest got"},
		{mixed(), 4, 99, 4, api.ErrTwice, "the last one, which came"},
		{mixed(), 2, 19, 2, api.ErrTwice, "what came, ahead of its time"},

		{mixed(), 2, 19, 1, api.ErrEarly, "just in time"},
		{mixed(), 2, 15, 0, api.ErrEarly, "another one's time"},
		{mixed(), 3, 10, 0, api.ErrEarly, "another one's time"},
		{mixed(), 4, -1, 0, api.ErrEarly, "a time below 0"},
		{mixed(), 1, math.MinInt, 0, api.ErrEarly, "the least time"},
	} {
		want := x.before
		if x.code == api.OK {
			want = closed(x.before)
		}
		l, e := line.Expire(x.before, x.k, x.time, x.got)
		check(t, "Expire of "+x.what, l, e, want, x.code)
	}
}

// P5.3, P5.4: of each packet, at each time, it is either in time or too late, never both.
func TestATimeIsInTimeOrTooLate(t *testing.T) {
	for k := 1; k <= 4; k++ {
		for _, now := range []int{math.MinInt, -1, 0, 1, 9, 10, 14, 15, 19, 20, 21, math.MaxInt} {
			l := got(mixed(), k-1)
			_, e := line.Deliver(l, k, l.Said[k-1], 4, now)
			_, f := line.Expire(l, k, now, k-1)
			inTime := now < l.Due[k-1]
			if inTime && (e != api.OK || f != api.ErrEarly) || !inTime && (e != api.ErrLate || f != api.OK) {
				t.Errorf("packet %d at %d: %d, %d", k, now, e, f)
			}
		}
	}
}

// P5.2 to P5.4: a line from its beginning to its end.
func TestALine(t *testing.T) {
	l, _ := line.Say(api.Line{}, "a", 10)
	l, _ = line.Deliver(l, 1, "a", 1, 9)
	l, _ = line.Say(l, "b", 12)
	l, _ = line.Say(l, "c", 30)
	l, e := line.Deliver(l, 2, "b", 3, 11)
	want := api.Line{Said: []string{"a", "b", "c"}, Due: []int{10, 12, 30}, Got: 2}
	check(t, "a line", l, e, want, api.OK)
	l, e = line.Expire(l, 3, 30, 2)
	check(t, "its end", l, e, closed(want), api.OK)
	l, e = line.Expire(l, 3, 30, 2)
	check(t, "behind its end", l, e, closed(want), api.ErrGone)
	l, e = line.Deliver(l, 3, "c", 3, 29)
	check(t, "behind its end", l, e, closed(want), api.ErrGone)
	l, e = line.Say(l, "d", 50)
	check(t, "behind its end", l, e, closed(want), api.ErrGone)
}

// roomy is a line with spare room behind its lists, and these lists with that room.
func roomy(l api.Line) (api.Line, []string, []int) {
	said := append(slices.Clone(l.Said), "spare", "room")
	due := append(slices.Clone(l.Due), -77, -88)
	l.Said, l.Due = said[:len(l.Said)], due[:len(l.Due)]
	return l, said, due
}

// Lists that are handed in are not changed, nor is their spare room.
func TestListsAreNotChanged(t *testing.T) {
	for _, x := range []api.Line{{}, mixed(), closed(mixed()), got(mixed(), 9), said(api.MaxSaid)} {
		l, said, due := roomy(x)
		saidBefore, dueBefore := slices.Clone(said), slices.Clone(due)
		line.Good(l)
		line.Say(l, "c", 40)
		line.Say(l, "c", -1)
		line.Deliver(l, 2, "b", 2, 5)
		line.Deliver(l, 2, "b", 2, 20)
		line.Expire(l, 2, 20, 0)
		line.Expire(l, 2, 0, 0)
		if !slices.Equal(said, saidBefore) || !slices.Equal(due, dueBefore) {
			t.Errorf("%v becomes %v, %v", x, said, due)
		}
	}
}

// P5.2: what was answered holds against later calls, also where several go out from one line.
func TestLinesThatPart(t *testing.T) {
	l, _, _ := roomy(mixed())
	for range 3 {
		first, _ := line.Say(l, "first", 1)
		second, _ := line.Say(l, "second", 2)
		third, _ := line.Say(first, "third", 3)
		fourth, _ := line.Say(first, "fourth", 4)
		n := len(l.Said)
		if first.Said[n] != "first" || first.Due[n] != 1 || second.Said[n] != "second" || second.Due[n] != 2 {
			t.Errorf("%v, %v", first, second)
		}
		if third.Said[n+1] != "third" || third.Due[n+1] != 3 || fourth.Said[n+1] != "fourth" || fourth.Due[n+1] != 4 {
			t.Errorf("%v, %v", third, fourth)
		}
		l = fourth
	}
}

// Whatever is done to a good line, it is a good one, with an error it is as it was, and what was said stays said.
func FuzzDeeds(f *testing.F) {
	f.Add([]byte{0, 9, 0, 1, 1, 5, 0, 7, 0, 1, 2, 5, 2, 2, 9})
	f.Add([]byte{0, 0, 0, 1, 1, 0, 2, 1, 0, 0, 1, 1, 1, 2, 1})
	f.Fuzz(func(t *testing.T, deeds []byte) {
		l := mixed()
		for ; len(deeds) >= 3; deeds = deeds[3:] {
			after, e := deed(int(deeds[0]), l, int(deeds[1])-1, int(deeds[2])-1)
			if !line.Good(after) || e != api.OK && !same(after, l) {
				t.Fatalf("%v: %v becomes %v, %d", deeds[:3], l, after, e)
			}
			n := len(l.Said)
			if !slices.Equal(after.Said[:n], l.Said) || !slices.Equal(after.Due[:n], l.Due) || after.Got < l.Got || after.Got > l.Got+1 {
				t.Fatalf("%v: %v becomes %v", deeds[:3], l, after)
			}
			l = after
		}
	})
}

func deed(kind int, l api.Line, k, n int) (api.Line, api.Errno) {
	switch kind % 3 {
	case 0:
		return line.Say(l, string(rune('a'+k%3)), n)
	case 1:
		return line.Deliver(l, k, string(rune('a'+kind%2)), len(l.Said)-kind%5+1, n)
	}
	return line.Expire(l, k, n, l.Got)
}
