package meter_test

import (
	"math"
	"testing"

	"suzerain/api"
	"suzerain/meter"
)

// anyNumbers are numbers of all kinds: at the bounds of words, of amounts and of times, and around Share and 0.
func anyNumbers() []int {
	return []int{
		math.MinInt, math.MinInt + 1, -api.MaxAmount, -api.MaxTime, -10, -6, -5, -4, -1,
		0, 1, 4, 5, 6, 9, 10, 11, 54, api.MaxTime - 1, api.MaxTime, api.MaxTime + 1,
		api.MaxAmount - 1, api.MaxAmount, api.MaxAmount + 1, math.MaxInt - 1, math.MaxInt,
	}
}

// times are times at their bounds and within.
func times() []int {
	return []int{0, 1, 7, 9, 10, 11, 1 << 32, api.MaxTime - api.Replenish, api.MaxTime - 1, api.MaxTime}
}

func checkMeter(t *testing.T, what string, m, want api.Meter) {
	t.Helper()
	if m != want {
		t.Errorf("%s: %v; want %v", what, m, want)
	}
}

// P6.1
func TestAllowance(t *testing.T) {
	for _, x := range []struct{ all, want int }{
		{5, 1}, {9, 1}, {10, 2}, {14, 2}, {15, 3}, {54, 10}, {55, 11}, {1000, 200},
		{0, 1}, {1, 1}, {4, 1},
		{-1, 1}, {-4, 1}, {-5, 1}, {-6, 1}, {-1000, 1}, {-api.MaxAmount, 1}, {math.MinInt, 1},
		{api.MaxAmount, 225179981368524}, {api.MaxAmount + 1, 225179981368525},
		{math.MaxInt, 1844674407370955161},
	} {
		if n := meter.Allowance(x.all); n != x.want {
			t.Errorf("Allowance(%d): %d; want %d", x.all, n, x.want)
		}
	}
}

// P6.1: at each number it is the greatest of which Share make no more than all, but at least 1.
func TestAllowanceIsRoundedDown(t *testing.T) {
	for all := -50; all <= 500; all++ {
		want := 1
		for (want+1)*api.Share <= all {
			want++
		}
		if n := meter.Allowance(all); n != want {
			t.Errorf("Allowance(%d): %d; want %d", all, n, want)
		}
	}
}

// P6.1
func TestNew(t *testing.T) {
	for _, x := range []struct {
		all, time int
		want      api.Meter
	}{
		{0, 0, api.Meter{Left: 1, Next: 10}},
		{50, 7, api.Meter{Left: 10, Next: 17}},
		{54, 0, api.Meter{Left: 10, Next: 10}},
		{-50, 3, api.Meter{Left: 1, Next: 13}},
		{math.MinInt, 3, api.Meter{Left: 1, Next: 13}},
		{math.MaxInt, 3, api.Meter{Left: 1844674407370955161, Next: 13}},
		{api.MaxAmount, api.MaxTime, api.Meter{Left: 225179981368524, Next: 1<<40 + 10}},
	} {
		checkMeter(t, "New", meter.New(x.all, x.time), x.want)
	}
	for _, all := range anyNumbers() {
		for _, time := range times() {
			want := api.Meter{Left: meter.Allowance(all), Next: time + api.Replenish}
			checkMeter(t, "New", meter.New(all, time), want)
		}
	}
}

// P6.2
func TestTick(t *testing.T) {
	for _, left := range []int{-api.MaxAmount, -29, -1, 0, 1, 5, 10, 20, 21, api.MaxAmount} {
		m := api.Meter{Left: left, Next: 17}
		for _, x := range []struct {
			all, time int
			want      api.Meter
			what      string
		}{
			{100, 0, m, "at 0"},
			{100, 7, m, "long ahead of Next"},
			{100, 16, m, "just ahead of Next"},
			{-1, 16, m, "just ahead of Next, all below 0"},
			{100, 17, api.Meter{Left: 20, Next: 27}, "at Next"},
			{100, 18, api.Meter{Left: 20, Next: 28}, "behind Next"},
			{54, 95, api.Meter{Left: 10, Next: 105}, "long behind Next"},
			{4, 17, api.Meter{Left: 1, Next: 27}, "with little power"},
			{0, 17, api.Meter{Left: 1, Next: 27}, "with no power"},
			{-100, 17, api.Meter{Left: 1, Next: 27}, "with power below 0"},
			{5, api.MaxTime, api.Meter{Left: 1, Next: 1<<40 + 10}, "at the last time"},
		} {
			checkMeter(t, "Tick "+x.what, meter.Tick(m, x.all, x.time), x.want)
		}
	}
}

// P6.2: at the bounds of times.
func TestTickAtEachBound(t *testing.T) {
	for _, next := range times() {
		m := api.Meter{Left: 3, Next: next}
		for _, time := range times() {
			for _, all := range anyNumbers() {
				want := m
				if time >= next {
					want = meter.New(all, time)
				}
				checkMeter(t, "Tick", meter.Tick(m, all, time), want)
			}
		}
	}
}

// P6.2: what is left does not add to what is filled in again, and the zero meter is due at once.
func TestTickFillsAnew(t *testing.T) {
	checkMeter(t, "Tick of the zero meter", meter.Tick(api.Meter{}, 50, 0), api.Meter{Left: 10, Next: 10})
	m := meter.New(50, 0)
	for range 3 {
		time := m.Next
		m = meter.Tick(m, 50, time)
		checkMeter(t, "Tick of a full meter", m, api.Meter{Left: 10, Next: time + 10})
	}
}

// P6.3
func TestTake(t *testing.T) {
	for _, x := range []struct {
		left, n, want int
		may           bool
		what          string
	}{
		{10, 3, 7, true, "a part"},
		{10, 9, 1, true, "all but 1"},
		{10, 10, 0, true, "all"},
		{10, 11, -1, true, "one more than is left"},
		{1, 30, -29, true, "far more than is left"},
		{1, 1, 0, true, "the last one"},
		{1, 0, 1, true, "nothing of the last one"},
		{10, 0, 10, true, "nothing"},
		{1, api.MaxAmount, 1 - api.MaxAmount, true, "the greatest amount"},
		{api.MaxAmount, api.MaxAmount, 0, true, "the greatest amount of as much"},
		{math.MaxInt, 1, math.MaxInt - 1, true, "1 of the greatest number"},

		{0, 1, 0, false, "1 of nothing"},
		{0, 0, 0, false, "nothing of nothing"},
		{0, api.MaxAmount, 0, false, "the greatest amount of nothing"},
		{-1, 1, -1, false, "1 of less than nothing"},
		{-1, 0, -1, false, "nothing of less than nothing"},
		{-29, 5, -29, false, "some of less than nothing"},
		{math.MinInt, api.MaxAmount, math.MinInt, false, "of the least number"},
	} {
		for _, next := range []int{0, 17, api.MaxTime + api.Replenish} {
			m, may := meter.Take(api.Meter{Left: x.left, Next: next}, x.n)
			checkMeter(t, "Take of "+x.what, m, api.Meter{Left: x.want, Next: next})
			if may != x.may {
				t.Errorf("Take of %s: %v; want %v", x.what, may, x.may)
			}
		}
	}
}

// P6.1 to P6.3: a meter from full to empty, and filled again by another power.
func TestAMeter(t *testing.T) {
	m := meter.New(50, 7)
	for _, left := range []int{6, 2, -2} {
		after, may := meter.Take(m, 4)
		checkMeter(t, "Take", after, api.Meter{Left: left, Next: 17})
		if !may {
			t.Errorf("Take of 4 of %d is refused", m.Left)
		}
		m = after
	}
	if after, may := meter.Take(m, 1); may || after != m {
		t.Errorf("Take of an empty meter: %v, %v", after, may)
	}
	m = meter.Tick(m, 46, 16)
	if after, may := meter.Take(m, 1); may || after != m {
		t.Errorf("Take just ahead of its time: %v, %v", after, may)
	}
	m = meter.Tick(m, 46, 20)
	checkMeter(t, "Tick", m, api.Meter{Left: 9, Next: 30})
	m, may := meter.Take(m, 9)
	if !may || m != (api.Meter{Left: 0, Next: 30}) {
		t.Errorf("Take of all: %v, %v", m, may)
	}
}

// No call panics, whatever the numbers, and each says the same again.
func TestAnyNumbers(t *testing.T) {
	for _, a := range anyNumbers() {
		for _, b := range anyNumbers() {
			m := api.Meter{Left: a, Next: b}
			for _, n := range anyNumbers() {
				first, may := meter.Take(m, n)
				second, mayAgain := meter.Take(m, n)
				if first != second || may != mayAgain || may != (a > 0) || first.Next != b {
					t.Errorf("Take(%v, %d): %v, %v, then %v, %v", m, n, first, may, second, mayAgain)
				}
				checkMeter(t, "Tick again", meter.Tick(m, n, a), meter.Tick(m, n, a))
			}
			checkMeter(t, "New again", meter.New(a, b), meter.New(a, b))
		}
	}
}
