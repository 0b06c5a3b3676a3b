package ratio_test

import (
	"math"
	"math/big"
	"testing"

	"suzerain/api"
	"suzerain/ratio"
)

// edges are numbers at the bounds of amounts, of words, and of what fits into half a product.
func edges() []int {
	return []int{
		math.MinInt, math.MinInt + 1, -api.MaxAmount - 1, -api.MaxAmount, -1001, -1000, -2, -1,
		0, 1, 2, 3, 7, 999, 1000, 1001, 1999,
		1<<31 - 1, 1 << 31, 1<<32 - 1, 1 << 32, 1<<32 + 1,
		api.MaxAmount - 1, api.MaxAmount, api.MaxAmount + 1,
		1<<53 + 1, 1<<62 - 1, 1 << 62, 1<<62 + 1, math.MaxInt - 1, math.MaxInt,
	}
}

// exact is what the document asks of MulDiv, worked out with numbers of any length.
func exact(a, b, c int) (int, api.Errno) {
	if a < 0 || b < 0 || c < 1 {
		return 0, api.ErrRange
	}
	n := new(big.Int).Mul(big.NewInt(int64(a)), big.NewInt(int64(b)))
	n.Div(n, big.NewInt(int64(c)))
	if n.Cmp(big.NewInt(api.MaxAmount)) > 0 {
		return 0, api.ErrRange
	}
	return int(n.Int64()), api.OK
}

func checkMulDiv(t *testing.T, a, b, c, want int, code api.Errno) {
	t.Helper()
	if n, e := ratio.MulDiv(a, b, c); n != want || e != code {
		t.Errorf("MulDiv(%d, %d, %d): %d, %d; want %d, %d", a, b, c, n, e, want, code)
	}
}

func checkPart(t *testing.T, n, f, want int, code api.Errno) {
	t.Helper()
	if m, e := ratio.Part(n, f); m != want || e != code {
		t.Errorf("Part(%d, %d): %d, %d; want %d, %d", n, f, m, e, want, code)
	}
}

// P2.1
func TestInIsFromZeroToMaxAmount(t *testing.T) {
	for _, n := range []int{0, 1, 100, 1 << 32, api.MaxAmount - 1, api.MaxAmount} {
		if !ratio.In(n) {
			t.Errorf("%d is an amount", n)
		}
	}
	for _, n := range []int{math.MinInt, -api.MaxAmount, -1, api.MaxAmount + 1, 1 << 62, math.MaxInt} {
		if ratio.In(n) {
			t.Errorf("%d is no amount", n)
		}
	}
}

// P2.2
func TestMulDivRoundsDown(t *testing.T) {
	for _, x := range [][4]int{
		{7, 6, 5, 8}, {7, 6, 6, 7}, {7, 6, 43, 0}, {7, 6, 42, 1}, {7, 6, 41, 1},
		{1, 1, 2, 0}, {1, 2, 2, 1}, {3, 3, 2, 4}, {5, 199, 100, 9},
		{0, 5, 1, 0}, {5, 0, 1, 0}, {0, 0, 1, 0}, {0, math.MaxInt, math.MaxInt, 0},
	} {
		checkMulDiv(t, x[0], x[1], x[2], x[3], api.OK)
	}
}

// P2.2
func TestMulDivOfProductsBeyondOneWord(t *testing.T) {
	for _, x := range [][4]int{
		{api.MaxAmount, api.MaxAmount, api.MaxAmount, api.MaxAmount},
		{1 << 62, 3, 1 << 62, 3},
		{1 << 62, 4, 1 << 62, 4},
		{1 << 62, 1 << 50, 1 << 62, 1 << 50},
		{math.MaxInt, api.MaxAmount, math.MaxInt, api.MaxAmount},
		{api.MaxAmount, math.MaxInt, math.MaxInt, api.MaxAmount},
		{math.MaxInt, 1 << 49, 1 << 62, 1<<50 - 1},
		{1<<53 + 1, 1<<53 + 1, 1 << 56, 1 << 50},
		{api.MaxAmount, api.MaxAmount - 1, math.MaxInt, 1<<37 - 1},
	} {
		checkMulDiv(t, x[0], x[1], x[2], x[3], api.OK)
	}
}

// P2.2: what is rounded down to MaxAmount is one, too.
func TestMulDivUpToMaxAmount(t *testing.T) {
	checkMulDiv(t, api.MaxAmount, 1, 1, api.MaxAmount, api.OK)
	checkMulDiv(t, 2*api.MaxAmount+1, 1, 2, api.MaxAmount, api.OK)
	checkMulDiv(t, 3, api.MaxAmount, 3, api.MaxAmount, api.OK)
	checkMulDiv(t, 2*api.MaxAmount+2, 1, 2, 0, api.ErrRange)
	checkMulDiv(t, api.MaxAmount+1, 1, 1, 0, api.ErrRange)
	checkMulDiv(t, api.MaxAmount, 2, 1, 0, api.ErrRange)
}

// P2.2: quotients that a word of 64 bits would make negative, small or 0, and those where the high word is just c.
func TestMulDivBeyondEveryWord(t *testing.T) {
	for _, x := range [][3]int{
		{1 << 62, 1, 1}, {math.MaxInt, 1, 1}, {math.MaxInt, math.MaxInt, math.MaxInt},
		{1 << 62, 2, 1}, {1 << 62, 3, 1}, {math.MaxInt, 2, 1},
		{1 << 62, 4, 1}, {1 << 62, 5, 1}, {1 << 62, 8, 2}, {1 << 62, 1 << 62, 1},
		{1 << 62, 1 << 62, 1 << 60}, {math.MaxInt, math.MaxInt, 1}, {math.MaxInt, math.MaxInt, 1 << 61},
	} {
		checkMulDiv(t, x[0], x[1], x[2], 0, api.ErrRange)
	}
}

// P2.2: a wrong number is one even where the others make the answer an amount.
func TestMulDivOfWrongNumbers(t *testing.T) {
	for _, n := range []int{math.MinInt, -api.MaxAmount, -1} {
		checkMulDiv(t, n, 1, 1, 0, api.ErrRange)
		checkMulDiv(t, 1, n, 1, 0, api.ErrRange)
		checkMulDiv(t, n, n, 1, 0, api.ErrRange)
		checkMulDiv(t, n, 0, 1, 0, api.ErrRange)
		checkMulDiv(t, 0, n, 1, 0, api.ErrRange)
		checkMulDiv(t, n, 1, n, 0, api.ErrRange)
		checkMulDiv(t, 1, 1, n, 0, api.ErrRange)
		checkMulDiv(t, 0, 0, n, 0, api.ErrRange)
	}
	checkMulDiv(t, 1, 1, 0, 0, api.ErrRange)
	checkMulDiv(t, 0, 0, 0, 0, api.ErrRange)
}

// P2.2
func TestMulDivIsExactAtAllEdges(t *testing.T) {
	for _, a := range edges() {
		for _, b := range edges() {
			for _, c := range edges() {
				n, e := exact(a, b, c)
				checkMulDiv(t, a, b, c, n, e)
			}
		}
	}
}

// P2.3
func TestPartRoundsDown(t *testing.T) {
	for _, x := range [][3]int{
		{1999, 50, 99}, {2000, 50, 100}, {19, 50, 0}, {20, 50, 1}, {700, 50, 35},
		{1, 999, 0}, {999, 1, 0}, {1000, 1, 1}, {1001, 999, 999},
		{0, 0, 0}, {0, 1000, 0}, {12345, 0, 0}, {12345, 1000, 12345},
		{api.MaxAmount, 0, 0}, {api.MaxAmount, 1, 1125899906842}, {api.MaxAmount, 50, 56294995342131},
		{api.MaxAmount, 999, 1124774006935781}, {api.MaxAmount, 1000, api.MaxAmount},
	} {
		checkPart(t, x[0], x[1], x[2], api.OK)
	}
}

// P2.3: n must be an amount, also where a part of it would be one.
func TestPartOfWrongNumbers(t *testing.T) {
	for _, n := range []int{math.MinInt, -api.MaxAmount, -1, api.MaxAmount + 1, 1 << 62, math.MaxInt} {
		for _, f := range []int{0, 1, 50, 1000} {
			checkPart(t, n, f, 0, api.ErrRange)
		}
	}
	for _, f := range []int{math.MinInt, -1000, -1, 1001, 2000, math.MaxInt} {
		for _, n := range []int{0, 1, 5, api.MaxAmount} {
			checkPart(t, n, f, 0, api.ErrRange)
		}
	}
}

// P2.3
func TestPartIsExactAtAllEdges(t *testing.T) {
	for _, n := range edges() {
		for _, f := range edges() {
			want, e := 0, api.ErrRange
			if ratio.In(n) && f >= 0 && f <= 1000 {
				want, e = exact(n, f, 1000)
			}
			checkPart(t, n, f, want, e)
		}
	}
}

func FuzzMulDiv(f *testing.F) {
	f.Add(7, 6, 5)
	f.Add(1<<62, 1<<62, 1<<60)
	f.Add(math.MaxInt, 1<<49, 1<<62)
	f.Fuzz(func(t *testing.T, a, b, c int) {
		n, e := exact(a, b, c)
		checkMulDiv(t, a, b, c, n, e)
	})
}
