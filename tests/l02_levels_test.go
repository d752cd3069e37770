package tests

import (
	"math"
	"math/big"
	"math/rand"
	"slices"
	"strconv"
	"testing"

	"loop.example/g01032/impl"
)

type numberCase struct {
	list []int64
	n    int64
	want []int64
	code int64
}

func checkLists(t *testing.T, name string, f func([]int64, int64) ([]int64, int64), cases []numberCase) {
	t.Helper()
	for _, c := range cases {
		got, code := f(c.list, c.n)
		if !slices.Equal(got, c.want) || code != c.code {
			t.Errorf("%s(%v, %d) = %v, %d, not %v, %d", name, c.list, c.n, got, code, c.want, c.code)
		}
	}
}

// countingUp returns the numbers from first to last.
func countingUp(first, last int64) []int64 {
	var list []int64
	for n := first; n <= last; n++ {
		list = append(list, n)
	}
	return list
}

// randomLists returns lists of up to most numbers from low to high, always the same ones.
func randomLists(many, most int, low, high int64) [][]int64 {
	source := rand.New(rand.NewSource(1))
	lists := make([][]int64, many)
	for i := range lists {
		lists[i] = make([]int64, source.Intn(most+1))
		for k := range lists[i] {
			lists[i][k] = low + source.Int63n(high-low+1)
		}
	}
	return lists
}

func TestLimitsOfLevels(t *testing.T) {
	if impl.MinLevel != -2000 || impl.MaxLevel != 2000 || impl.MaxDay != 100000 || impl.MaxGauges != 60 || impl.MaxShared != 1000000000 {
		t.Error("a limit is wrong")
	}
	for _, n := range append([]int64{-2001, -2000, -1999, 1999, 2000, 2001, 99999, 100000, 100001}, extremes...) {
		if got := impl.ValidLevel(n); got != (n >= -2000 && n <= 2000) {
			t.Errorf("ValidLevel(%d) = %v", n, got)
		}
		if got := impl.ValidDay(n); got != (n >= 0 && n <= 100000) {
			t.Errorf("ValidDay(%d) = %v", n, got)
		}
	}
}

func TestMeanLevel(t *testing.T) {
	cases := []struct {
		list []int64
		want impl.Fraction
		code int64
	}{
		{[]int64{-50, -40, -45, 100}, impl.Fraction{Num: -35, Den: 4}, impl.OK},
		{[]int64{7}, impl.Fraction{Num: 7, Den: 1}, impl.OK},
		{[]int64{0}, impl.Fraction{Num: 0, Den: 1}, impl.OK},
		{[]int64{5, -5, 0}, impl.Fraction{Num: 0, Den: 1}, impl.OK},
		{[]int64{1, 2, 3}, impl.Fraction{Num: 2, Den: 1}, impl.OK},
		{[]int64{-1, -2}, impl.Fraction{Num: -3, Den: 2}, impl.OK},
		{[]int64{1, 1, 1, 3, 3, 3}, impl.Fraction{Num: 2, Den: 1}, impl.OK},
		{filled(60, 2000), impl.Fraction{Num: 2000, Den: 1}, impl.OK},
		{filled(60, -2000), impl.Fraction{Num: -2000, Den: 1}, impl.OK},
		{nil, impl.Fraction{}, impl.ErrNotFound},
		{[]int64{}, impl.Fraction{}, impl.ErrNotFound},
		{[]int64{2001}, impl.Fraction{}, impl.ErrRange},
		{[]int64{-2001}, impl.Fraction{}, impl.ErrRange},
		{[]int64{0, 0, 2001}, impl.Fraction{}, impl.ErrRange},
		{filled(61, 0), impl.Fraction{}, impl.ErrRange},
	}
	for _, c := range cases {
		if got, code := impl.MeanLevel(c.list); got != c.want || code != c.code {
			t.Errorf("MeanLevel(%v) = %v, %d", c.list, got, code)
		}
	}
}

// TestMeanIsExact holds the mean against exact fractions of the standard library.
func TestMeanIsExact(t *testing.T) {
	for _, list := range randomLists(300, 60, -2000, 2000) {
		if len(list) == 0 {
			continue
		}
		sum := int64(0)
		for _, n := range list {
			sum += n
		}
		want := big.NewRat(sum, int64(len(list)))
		f, code := impl.MeanLevel(list)
		if f.Num != want.Num().Int64() || f.Den != want.Denom().Int64() || code != impl.OK {
			t.Errorf("MeanLevel(%v) = %v, %d", list, f, code)
		}
	}
}

func TestMedianLevel(t *testing.T) {
	cases := []struct {
		list []int64
		want int64
		code int64
	}{
		{[]int64{-50, -40, -45, 100}, -45, impl.OK},
		{[]int64{7}, 7, impl.OK},
		{[]int64{9, 1}, 1, impl.OK},
		{[]int64{3, 1, 2}, 2, impl.OK},
		{[]int64{4, 3, 2, 1}, 2, impl.OK},
		{[]int64{5, 5, 1, 9, 5}, 5, impl.OK},
		{[]int64{2000, -2000}, -2000, impl.OK},
		{countingUp(1, 60), 30, impl.OK},
		{countingUp(1, 59), 30, impl.OK},
		{nil, 0, impl.ErrNotFound},
		{[]int64{}, 0, impl.ErrNotFound},
		{[]int64{1, 2, 2001}, 0, impl.ErrRange},
		{[]int64{1, 2, -2001}, 0, impl.ErrRange},
		{countingUp(1, 61), 0, impl.ErrRange},
	}
	for _, c := range cases {
		if got, code := impl.MedianLevel(c.list); got != c.want || code != c.code {
			t.Errorf("MedianLevel(%v) = %d, %d", c.list, got, code)
		}
	}
}

// TestMiddleLiesAmongTheLevels is promise 3 for the middle: it is one of the levels, with at most
// (n - 1) / 2 of them less, and at most n / 2 of them greater.
func TestMiddleLiesAmongTheLevels(t *testing.T) {
	lists := append(randomLists(300, 60, -2000, 2000), randomLists(300, 9, -2, 2)...)
	for _, list := range lists {
		if len(list) == 0 {
			continue
		}
		middle, code := impl.MedianLevel(list)
		if !slices.Contains(list, middle) || code != impl.OK {
			t.Fatalf("MedianLevel(%v) = %d, %d", list, middle, code)
		}
		less, greater := 0, 0
		for _, n := range list {
			if n < middle {
				less++
			}
			if n > middle {
				greater++
			}
		}
		if less > (len(list)-1)/2 || greater > len(list)/2 {
			t.Errorf("MedianLevel(%v) = %d: %d are less and %d greater", list, middle, less, greater)
		}
	}
}

func TestLevelOfGauge(t *testing.T) {
	cases := []struct{ zero, reading, want, code int64 }{
		{-300, 123, -177, impl.OK},
		{0, 0, 0, impl.OK},
		{-2000, 0, -2000, impl.OK},
		{2000, 0, 2000, impl.OK},
		{-2000, 4000, 2000, impl.OK},
		{1990, 10, 2000, impl.OK},
		{1990, 11, 0, impl.ErrFull},
		{-2000, 4001, 0, impl.ErrFull},
		{2000, 1, 0, impl.ErrFull},
		{-2000, 10000, 0, impl.ErrFull},
		{2000, 10000, 0, impl.ErrFull},
		{-2000, 10001, 0, impl.ErrRange},
		{2000, 10001, 0, impl.ErrRange},
		{0, -1, 0, impl.ErrRange},
		{2001, 0, 0, impl.ErrRange},
		{-2001, 0, 0, impl.ErrRange},
		{-2001, 1, 0, impl.ErrRange},
		{2001, 10000, 0, impl.ErrRange},
		{2000, math.MaxInt64, 0, impl.ErrRange},
		{-2000, math.MinInt64, 0, impl.ErrRange},
		{math.MaxInt64, 1, 0, impl.ErrRange},
		{math.MinInt64, 10000, 0, impl.ErrRange},
	}
	for _, c := range cases {
		if got, code := impl.LevelOfGauge(c.zero, c.reading); got != c.want || code != c.code {
			t.Errorf("LevelOfGauge(%d, %d) = %d, %d", c.zero, c.reading, got, code)
		}
	}
}

func TestWrongGauges(t *testing.T) {
	list := []int64{-50, -40, -45, 100}
	checkLists(t, "WrongGauges", impl.WrongGauges, []numberCase{
		{list, 10, []int64{3}, impl.OK},
		{list, 5, []int64{3}, impl.OK},
		{list, 4, []int64{0, 1, 3}, impl.OK},
		{list, 0, []int64{0, 1, 3}, impl.OK},
		{list, 144, []int64{3}, impl.OK},
		{list, 145, nil, impl.OK},
		{[]int64{100, 0, 0, -100}, 99, []int64{0, 3}, impl.OK},
		{[]int64{-2000, 2000}, 4000, nil, impl.OK},
		{[]int64{-2000, 2000}, 3999, []int64{1}, impl.OK},
		{[]int64{-2000, 2000, 2000}, 3999, []int64{0}, impl.OK},
		{filled(60, 5), 0, nil, impl.OK},
		{nil, 0, nil, impl.OK},
		{[]int64{}, 4000, nil, impl.OK},
		{nil, -1, nil, impl.ErrRange},
		{nil, 4001, nil, impl.ErrRange},
		{list, -1, nil, impl.ErrRange},
		{list, 4001, nil, impl.ErrRange},
		{list, math.MaxInt64, nil, impl.ErrRange},
		{list, math.MinInt64, nil, impl.ErrRange},
		{[]int64{2001}, 10, nil, impl.ErrRange},
		{[]int64{0, -2001}, 10, nil, impl.ErrRange},
		{filled(61, 5), 0, nil, impl.ErrRange},
	})
}

func TestRisesFast(t *testing.T) {
	list := []int64{-50, -40, -45, 100}
	checkLists(t, "RisesFast", impl.RisesFast, []numberCase{
		{list, 10, []int64{1, 3}, impl.OK},
		{list, 11, []int64{3}, impl.OK},
		{list, 145, []int64{3}, impl.OK},
		{list, 146, nil, impl.OK},
		{list, 1, []int64{1, 3}, impl.OK},
		{[]int64{3, 3, 4, 3}, 1, []int64{2}, impl.OK},
		{[]int64{-2000, 2000}, 4000, []int64{1}, impl.OK},
		{[]int64{-1999, 2000}, 4000, nil, impl.OK},
		{countingUp(1, 60), 1, countingUp(1, 59), impl.OK},
		{[]int64{5}, 1, nil, impl.OK},
		{nil, 1, nil, impl.OK},
		{[]int64{}, 4000, nil, impl.OK},
		{nil, 0, nil, impl.ErrRange},
		{nil, 4001, nil, impl.ErrRange},
		{list, 0, nil, impl.ErrRange},
		{list, -1, nil, impl.ErrRange},
		{list, 4001, nil, impl.ErrRange},
		{list, math.MinInt64, nil, impl.ErrRange},
		{[]int64{2001}, 10, nil, impl.ErrRange},
		{[]int64{0, -2001}, 10, nil, impl.ErrRange},
		{countingUp(1, 61), 1, nil, impl.ErrRange},
	})
}

func TestSlopeBetween(t *testing.T) {
	cases := []struct {
		a, b, metres int64
		want         impl.Fraction
		code         int64
	}{
		{10, -20, 3000, impl.Fraction{Num: -1, Den: 100}, impl.OK},
		{-20, 10, 3000, impl.Fraction{Num: 1, Den: 100}, impl.OK},
		{5, 5, 77, impl.Fraction{Num: 0, Den: 1}, impl.OK},
		{0, 6, 4, impl.Fraction{Num: 3, Den: 2}, impl.OK},
		{0, 8, 4, impl.Fraction{Num: 2, Den: 1}, impl.OK},
		{1, 8, 10, impl.Fraction{Num: 7, Den: 10}, impl.OK},
		{-2000, 2000, 1, impl.Fraction{Num: 4000, Den: 1}, impl.OK},
		{2000, -2000, 1, impl.Fraction{Num: -4000, Den: 1}, impl.OK},
		{2000, -2000, 100000, impl.Fraction{Num: -1, Den: 25}, impl.OK},
		{2000, 1999, 100000, impl.Fraction{Num: -1, Den: 100000}, impl.OK},
		{0, 1, 0, impl.Fraction{}, impl.ErrRange},
		{0, 1, -1, impl.Fraction{}, impl.ErrRange},
		{0, 1, 100001, impl.Fraction{}, impl.ErrRange},
		{2001, 0, 1, impl.Fraction{}, impl.ErrRange},
		{-2001, 0, 1, impl.Fraction{}, impl.ErrRange},
		{0, 2001, 1, impl.Fraction{}, impl.ErrRange},
		{0, -2001, 1, impl.Fraction{}, impl.ErrRange},
		{math.MinInt64, math.MaxInt64, 1, impl.Fraction{}, impl.ErrRange},
	}
	for _, c := range cases {
		if got, code := impl.SlopeBetween(c.a, c.b, c.metres); got != c.want || code != c.code {
			t.Errorf("SlopeBetween(%d, %d, %d) = %v, %d", c.a, c.b, c.metres, got, code)
		}
	}
}

func shareOut(weights []int64, total int64) ([]int64, int64) { return impl.ShareOut(total, weights) }

func TestShareOut(t *testing.T) {
	checkLists(t, "ShareOut", shareOut, []numberCase{
		{[]int64{1, 1, 1}, 10, []int64{4, 3, 3}, impl.OK},
		{[]int64{1, 1, 1}, 11, []int64{4, 4, 3}, impl.OK},
		{[]int64{5, 0, 3}, 7, []int64{4, 0, 3}, impl.OK},
		{[]int64{0, 1}, 5, []int64{0, 5}, impl.OK},
		{[]int64{0, 0, 9}, 1000000000, []int64{0, 0, 1000000000}, impl.OK},
		{[]int64{1, 2, 3}, 0, []int64{0, 0, 0}, impl.OK},
		{[]int64{3, 2, 1}, 1, []int64{1, 0, 0}, impl.OK},
		{[]int64{1, 2, 3}, 1, []int64{0, 0, 1}, impl.OK},
		{[]int64{1, 3, 1, 3}, 2, []int64{0, 1, 0, 1}, impl.OK},
		{[]int64{1, 1}, 1, []int64{1, 0}, impl.OK},
		{[]int64{1000000000}, 1000000000, []int64{1000000000}, impl.OK},
		{[]int64{999999999, 1}, 1000000000, []int64{999999999, 1}, impl.OK},
		{[]int64{999999999, 1}, 999999999, []int64{999999998, 1}, impl.OK},
		{[]int64{1, 999999999}, 999999999, []int64{1, 999999998}, impl.OK},
		{filled(60, 1), 61, append([]int64{2}, filled(59, 1)...), impl.OK},
		{filled(60, 16666666), 1000000000, append(filled(40, 16666667), filled(20, 16666666)...), impl.OK},
		{[]int64{0}, 7, nil, impl.ErrState},
		{[]int64{0}, 0, nil, impl.ErrState},
		{filled(60, 0), 1000000000, nil, impl.ErrState},
		{nil, 7, nil, impl.ErrState},
		{[]int64{}, 0, nil, impl.ErrState},
	})
}

func TestShareOutOutOfRange(t *testing.T) {
	checkLists(t, "ShareOut", shareOut, []numberCase{
		{[]int64{0}, -1, nil, impl.ErrRange},
		{[]int64{0}, 1000000001, nil, impl.ErrRange},
		{nil, -1, nil, impl.ErrRange},
		{nil, 1000000001, nil, impl.ErrRange},
		{[]int64{1}, -1, nil, impl.ErrRange},
		{[]int64{1}, 1000000001, nil, impl.ErrRange},
		{[]int64{-1}, 1, nil, impl.ErrRange},
		{[]int64{1, -1}, 1, nil, impl.ErrRange},
		{[]int64{5, -1}, 1, nil, impl.ErrRange},
		{[]int64{1000000001}, 1, nil, impl.ErrRange},
		{[]int64{1000000000, 1}, 1, nil, impl.ErrRange},
		{[]int64{500000000, 500000001}, 1, nil, impl.ErrRange},
		{filled(60, 1000000000), 1, nil, impl.ErrRange},
		{filled(61, 1), 1, nil, impl.ErrRange},
		{filled(61, 0), 1, nil, impl.ErrRange},
		{[]int64{math.MaxInt64, math.MaxInt64, 2}, 1, nil, impl.ErrRange},
		{[]int64{math.MinInt64, math.MinInt64}, 1, nil, impl.ErrRange},
		{[]int64{1}, math.MaxInt64, nil, impl.ErrRange},
		{[]int64{1}, math.MinInt64, nil, impl.ErrRange},
	})
}

// checkShares holds shares against the definition: each one is T * w / S rounded down, or one
// more, and nobody with one more has a lesser remainder, or an equal one behind, than one without.
func checkShares(t *testing.T, total int64, weights, shares []int64) {
	t.Helper()
	weightSum, shareSum := int64(0), int64(0)
	for i := range shares {
		weightSum += weights[i]
		shareSum += shares[i]
	}
	if len(shares) != len(weights) || shareSum != total {
		t.Fatalf("ShareOut(%d, %v) = %v, with the sum %d", total, weights, shares, shareSum)
	}
	extra := func(i int) int64 { return shares[i] - total*weights[i]/weightSum }
	rest := func(i int) int64 { return total * weights[i] % weightSum }
	for i := range shares {
		if extra(i) < 0 || extra(i) > 1 {
			t.Fatalf("ShareOut(%d, %v) = %v: wrong at %d", total, weights, shares, i)
		}
		for k := range shares {
			if extra(i) == 1 && extra(k) == 0 && (rest(i) < rest(k) || rest(i) == rest(k) && k < i) {
				t.Fatalf("ShareOut(%d, %v) = %v: %d comes before %d", total, weights, shares, k, i)
			}
		}
	}
}

// TestSharesHaveTheirSum is promise 3 for what is shared out.
func TestSharesHaveTheirSum(t *testing.T) {
	lists := append(randomLists(200, 60, 0, 16000000), randomLists(400, 7, 0, 3)...)
	source := rand.New(rand.NewSource(2))
	for _, weights := range lists {
		for _, total := range []int64{0, 1, 2, 7, 59, source.Int63n(1000000001), 999999999, 1000000000} {
			shares, code := impl.ShareOut(total, weights)
			if code == impl.ErrState && !slices.ContainsFunc(weights, func(w int64) bool { return w > 0 }) {
				continue
			}
			if code != impl.OK {
				t.Fatalf("ShareOut(%d, %v): %d", total, weights, code)
			}
			checkShares(t, total, weights, shares)
		}
	}
}

func TestRoundFraction(t *testing.T) {
	const most, den = 1000000000000000, 1000000000
	cases := []struct{ num, den, want, code int64 }{
		{5, 2, 3, impl.OK},
		{-5, 2, -2, impl.OK},
		{7, 3, 2, impl.OK},
		{-7, 3, -2, impl.OK},
		{8, 3, 3, impl.OK},
		{-8, 3, -3, impl.OK},
		{1, 2, 1, impl.OK},
		{-1, 2, 0, impl.OK},
		{-3, 2, -1, impl.OK},
		{2, 4, 1, impl.OK},
		{0, 1, 0, impl.OK},
		{0, den, 0, impl.OK},
		{-6, 1, -6, impl.OK},
		{most, 1, most, impl.OK},
		{-most, 1, -most, impl.OK},
		{most, den, 1000000, impl.OK},
		{-most, den, -1000000, impl.OK},
		{most - 500000000, den, 1000000, impl.OK},
		{most - 500000001, den, 999999, impl.OK},
		{499999999, den, 0, impl.OK},
		{500000000, den, 1, impl.OK},
		{-500000000, den, 0, impl.OK},
		{-500000001, den, -1, impl.OK},
		{1, 0, 0, impl.ErrInvalid},
		{0, 0, 0, impl.ErrInvalid},
		{1, -1, 0, impl.ErrInvalid},
		{1, den + 1, 0, impl.ErrInvalid},
		{most + 1, 1, 0, impl.ErrInvalid},
		{-most - 1, 1, 0, impl.ErrInvalid},
		{math.MaxInt64, 1, 0, impl.ErrInvalid},
		{math.MinInt64, 1, 0, impl.ErrInvalid},
		{math.MinInt64, -1, 0, impl.ErrInvalid},
		{1, math.MinInt64, 0, impl.ErrInvalid},
	}
	for _, c := range cases {
		if got, code := impl.RoundFraction(impl.Fraction{Num: c.num, Den: c.den}); got != c.want || code != c.code {
			t.Errorf("RoundFraction(%d / %d) = %d, %d", c.num, c.den, got, code)
		}
	}
}

// TestNearestInteger holds small fractions against the definition: n <= f + 1/2 < n + 1.
func TestNearestInteger(t *testing.T) {
	for num := int64(-60); num <= 60; num++ {
		for den := int64(1); den <= 20; den++ {
			n, code := impl.RoundFraction(impl.Fraction{Num: num, Den: den})
			if 2*den*n > 2*num+den || 2*num+den >= 2*den*(n+1) || code != impl.OK {
				t.Errorf("RoundFraction(%d / %d) = %d, %d", num, den, n, code)
			}
		}
	}
}

// TestLevelsAreReadBack writes the text of each level by the definition.
func TestLevelsAreReadBack(t *testing.T) {
	for n := int64(-2000); n <= 2000; n++ {
		sign, rest := "+", n
		if n < 0 {
			sign, rest = "-", -n
		}
		cents := strconv.FormatInt(100+rest%100, 10)[1:]
		want := sign + strconv.FormatInt(rest/100, 10) + "." + cents + "m"
		if s := impl.LevelText(n); s != want {
			t.Errorf("LevelText(%d) = %q, not %q", n, s, want)
		}
		if got, ok := impl.ReadLevel(want); got != n || !ok {
			t.Errorf("ReadLevel(%q) = %d, %v", want, got, ok)
		}
	}
	for _, n := range append([]int64{-2001, 2001, -10000, 10000}, extremes...) {
		if s := impl.LevelText(n); s != "" && (n < -2000 || n > 2000) {
			t.Errorf("LevelText(%d) = %q", n, s)
		}
	}
}

func TestNoTextsOfLevels(t *testing.T) {
	no := []string{
		"-0.00m", "+20.01m", "-20.01m", "+21.00m", "-100.00m", "1.23m", "0.00m", "+1.2m", "+1.m", "+1m", "+1.234m", "+01.00m",
		"-01.00m", "+00.00m", "+.50m", "-.50m", "++1.00m", "+-1.00m", "--1.00m", "-+1.00m", "+-0.00m", "+1.+5m", "+1.-5m", "+1. 5m",
		"+1.5 m", "+1.0:m", "+1./0m", "+1.:0m", "+1.0/m", "+1,23m", "+1.23", "+1.23M", "+1.23mm", "+1.23 m", " +1.23m", "+1.23m ", "+1.23m\n",
		"+1.2.3m", "+1.23.m", "+1..23m", "x1.23m", "\xff1.23m", "＋1.23m", "+１.23m", "+1.２３m", "+1.é" + "m", "+ 1.23m", "+1e1.00m", "+0x1.00m", "+1_0.00m",
		"+184467440737095516.16m", "+184467440737095516.17m", "-184467440737095516.17m", "+92233720368547758.08m",
		"-92233720368547758.08m", "+999999999999999999.99m", "+18446744073709551616.00m", "-0.0m", "-00.01m", "±1.00m", "m",
	}
	for _, s := range append(no, oddTexts...) {
		if n, ok := impl.ReadLevel(s); n != 0 || ok {
			t.Errorf("ReadLevel(%q) = %d, %v", s, n, ok)
		}
	}
}

// TestReadLevelOnChanges changes each byte of texts of levels: what is read must have just this text.
func TestReadLevelOnChanges(t *testing.T) {
	for _, text := range []string{"+0.00m", "-0.01m", "+20.00m", "-20.00m", "+1.23m", "-19.99m"} {
		for i := range text {
			for b := range 256 {
				changed := []byte(text)
				changed[i] = byte(b)
				if n, ok := impl.ReadLevel(string(changed)); ok && impl.LevelText(n) != string(changed) || !ok && n != 0 {
					t.Errorf("ReadLevel(%q) = %d, %v", changed, n, ok)
				}
			}
		}
	}
}

func levelLists() [][]int64 {
	lists := append(oddLists(), []int64{-50, -40, -45, 100}, []int64{5, 0, 3}, []int64{1, 1, 1}, countingUp(-30, 29), []int64{9, 7, 7, 8})
	return append(lists, randomLists(50, 62, -2000, 2000)...)
}

// TestListsArePure is promise 1 for the functions of chapter 2 that have a list as an argument.
func TestListsArePure(t *testing.T) {
	type mean struct {
		f    impl.Fraction
		code int64
	}
	type middle struct{ n, code int64 }
	limits := append([]int64{2, 10, 4000, 4001, 1000000000, 1000000001}, extremes...)
	for _, list := range levelLists() {
		m := checkPure(t, list, func(l []int64) mean { f, c := impl.MeanLevel(l); return mean{f, c} }, func(a, b mean) bool { return a == b })
		if m.code != impl.OK && m.f != (impl.Fraction{}) {
			t.Errorf("MeanLevel(%v) = %v", list, m)
		}
		n := checkPure(t, list, func(l []int64) middle { n, c := impl.MedianLevel(l); return middle{n, c} }, func(a, b middle) bool { return a == b })
		if n.code != impl.OK && n.n != 0 {
			t.Errorf("MedianLevel(%v) = %v", list, n)
		}
		for _, limit := range limits {
			checkNewList(t, list, func(l []int64) ([]int64, int64) { return impl.WrongGauges(l, limit) })
			checkNewList(t, list, func(l []int64) ([]int64, int64) { return impl.RisesFast(l, limit) })
			checkNewList(t, list, func(l []int64) ([]int64, int64) { return impl.ShareOut(limit, l) })
		}
	}
}

// TestNumbersArePure is promise 1 for the other functions of chapter 2.
func TestNumbersArePure(t *testing.T) {
	numbers := append([]int64{-2001, -2000, 2000, 2001, 10000, 10001, 100000, 100001}, extremes...)
	for _, a := range numbers {
		if impl.ValidLevel(a) != impl.ValidLevel(a) || impl.ValidDay(a) != impl.ValidDay(a) || impl.LevelText(a) != impl.LevelText(a) {
			t.Errorf("%d: results differ", a)
		}
		for _, b := range numbers {
			checkTwice(t, "LevelOfGauge", a, b, impl.LevelOfGauge)
			checkTwice(t, "RoundFraction", a, b, func(a, b int64) (int64, int64) { return impl.RoundFraction(impl.Fraction{Num: a, Den: b}) })
			for _, c := range numbers {
				f, code := impl.SlopeBetween(a, b, c)
				again, codeAgain := impl.SlopeBetween(a, b, c)
				if f != again || code != codeAgain || (code == impl.OK) != (f.Den > 0) || code != impl.OK && f != (impl.Fraction{}) {
					t.Errorf("SlopeBetween(%d, %d, %d) = %v, %d, then %v, %d", a, b, c, f, code, again, codeAgain)
				}
			}
		}
	}
	for _, text := range append([]string{"+1.23m", "-20.00m", "-0.00m"}, oddTexts...) {
		n, ok := impl.ReadLevel(text)
		if m, again := impl.ReadLevel(text); m != n || again != ok {
			t.Errorf("ReadLevel of %q differs", text)
		}
	}
}

func checkTwice(t *testing.T, name string, a, b int64, f func(a, b int64) (int64, int64)) {
	t.Helper()
	n, code := f(a, b)
	again, codeAgain := f(a, b)
	if n != again || code != codeAgain || code != impl.OK && n != 0 {
		t.Errorf("%s(%d, %d) = %d, %d, then %d, %d", name, a, b, n, code, again, codeAgain)
	}
}
