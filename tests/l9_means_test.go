package tests

import (
	"math"
	"math/big"
	"slices"
	"sync"
	"testing"

	"loop.example/symmetricsums/impl"
)

// count is how many products are added up.
func (s terms) count() int {
	n := 0
	for _, times := range s {
		n += times
	}
	return n
}

// isPure reports whether no number of a list is negative.
func isPure(x []int) bool {
	return !slices.ContainsFunc(x, func(number int) bool { return number < 0 })
}

// allSame reports whether all numbers of a list are the same.
func allSame(x []int) bool {
	return len(slices.Compact(slices.Clone(x))) <= 1
}

// isAbove reports whether the first parts of a share add up to at least as much as those of another one, for each number of parts.
func isAbove(a []int, b []int) bool {
	for k := range 7 {
		if sum(a[:min(k, len(a))]) < sum(b[:min(k, len(b))]) {
			return false
		}
	}
	return true
}

// meanPoints holds points of n numbers: those of diagramPoints and pure ones, and points of the same numbers.
func meanPoints(n int) [][]int {
	all := diagramPoints(n)
	for number := -5; number <= 5; number++ {
		all = append(all, slices.Repeat([]int{number}, n))
	}
	next := drawer(uint64(n) + 90)
	for range 40 {
		x := []int{}
		for range n {
			x = append(x, max(next(5), -next(5), 0))
		}
		all = append(all, x)
	}
	return all
}

// eachSamePair visits all pairs of shares of one degree.
func eachSamePair(visit func(a []int, b []int)) {
	for _, all := range knownShares() {
		for _, a := range all {
			for _, b := range all {
				visit(a, b)
			}
		}
	}
}

// meansOf holds, by the numbers of each share with at most n parts, its mean at a point, straight from the definition.
func meansOf(x []int, all map[string]terms) map[string]*big.Rat {
	means := map[string]*big.Rat{}
	for share, plain := range all {
		if len(share) <= len(x) {
			means[share] = big.NewRat(int64(plain.at(x)), int64(plain.count()))
		}
	}
	return means
}

// allPlainTerms holds, by the numbers of each share, the products of its plain sum for n numbers.
func allPlainTerms(n int) map[string]terms {
	all := map[string]terms{}
	eachShare(func(_ int, a []int) { all[digits(a)] = plainTerms(n, a) })
	return all
}

// squareLess returns the square of a number less the product of two others.
func squareLess(square *big.Rat, first *big.Rat, second *big.Rat) *big.Rat {
	product := new(big.Rat).Mul(first, second)
	return product.Sub(new(big.Rat).Mul(square, square), product)
}

func TestPromise78MeanTerms(t *testing.T) {
	none := 0
	for n := range 6 {
		eachShare(func(_ int, a []int) {
			of := []any{a, n}
			value, ok := impl.MeanTerms(a, n)
			checkNumber(t, "MeanTerms", of, value, ok, plainTerms(n, a).count(), true)
			plain, okp := impl.AtPlain(a, ones(n))
			checkNumber(t, "AtPlain at ones", of, plain, okp, value, ok)
			if (value == 0) != (len(a) > n) || value < 0 {
				t.Errorf("MeanTerms of %v and %d is %d", a, n, value)
			}
			if len(a) > n {
				none++
			}
		})
	}
	if none < 50 {
		t.Errorf("%d shares have more parts than there are numbers", none)
	}
}

// TestMeanTermsKnown holds numbers that were found by hand, those for just as many parts as numbers and one more among them.
func TestMeanTermsKnown(t *testing.T) {
	for _, c := range []struct {
		a    []int
		n    int
		want int
	}{
		{nil, 0, 1}, {[]int{}, 5, 1}, {[]int{1}, 0, 0}, {[]int{1}, 1, 1}, {[]int{6}, 5, 5}, {[]int{2, 1}, 1, 0}, {[]int{2, 1}, 2, 2}, {[]int{2, 1}, 3, 6},
		{[]int{1, 1}, 5, 10}, {[]int{3, 2, 1}, 5, 60}, {[]int{3, 2, 1}, 3, 6}, {[]int{3, 2, 1}, 2, 0}, {[]int{2, 2, 1, 1}, 4, 6}, {[]int{2, 2, 1, 1}, 5, 30},
		{[]int{2, 1, 1, 1, 1}, 5, 5}, {[]int{2, 1, 1, 1, 1}, 4, 0}, {ones(5), 5, 1}, {ones(5), 4, 0}, {ones(6), 5, 0}, {[]int{2, 2, 2}, 5, 10}, {[]int{3, 1, 1, 1}, 5, 20},
	} {
		n, ok := impl.MeanTerms(c.a, c.n)
		checkNumber(t, "MeanTerms", []any{c.a, c.n}, n, ok, c.want, true)
	}
}

// checkSign compares MeanSign with the means, where both are told.
func checkSign(t *testing.T, a []int, b []int, x []int, means map[string]*big.Rat) int {
	t.Helper()
	of := [][]int{a, b, x}
	first, second := means[digits(a)], means[digits(b)]
	sign, ok := impl.MeanSign(a, b, x)
	if first == nil || second == nil {
		checkNumber(t, "MeanSign", of, sign, ok, 0, false)
		return 0
	}
	checkNumber(t, "MeanSign", of, sign, ok, first.Cmp(second), true)
	back, okb := impl.MeanSign(b, a, x)
	checkNumber(t, "MeanSign exchanged", of, back, okb, -sign, true)
	if isAbove(a, b) && isPure(x) && sign == -1 {
		t.Errorf("MeanSign of %v above %v at %v is %d", a, b, x, sign)
	}
	if (allSame(x) || slices.Equal(a, b)) && sign != 0 {
		t.Errorf("MeanSign of %v and %v at %v is %d", a, b, x, sign)
	}
	return sign
}

func TestPromise79MeanSign(t *testing.T) {
	signs := map[int]int{}
	above := map[int]int{} // at points that are not pure
	fewer := 0
	for n := range 6 {
		all := allPlainTerms(n)
		for _, x := range meanPoints(n) {
			means := meansOf(x, all)
			eachSamePair(func(a []int, b []int) {
				sign := checkSign(t, a, b, x, means)
				if max(len(a), len(b)) > n {
					fewer++
					return
				}
				signs[sign]++
				if isAbove(a, b) && !isPure(x) {
					above[sign]++
				}
			})
		}
	}
	if signs[0] < 1000 || signs[1] < 1000 || signs[-1] < 1000 || fewer < 1000 || above[-1] < 100 {
		t.Errorf("signs %v, %v of shares above others at points that are not pure, and %d of shares with more parts than numbers", signs, above, fewer)
	}
}

// TestMeanSignKnown holds signs that were found by hand.
func TestMeanSignKnown(t *testing.T) {
	for _, c := range []struct {
		a, b, x []int
		want    int
	}{
		{[]int{2}, []int{1, 1}, []int{1, 2}, 1}, {[]int{1, 1}, []int{2}, []int{1, 2}, -1}, {[]int{2}, []int{1, 1}, []int{-3, -3}, 0}, {[]int{2}, []int{1, 1}, []int{-1, 2, 3}, 1},
		{[]int{3}, []int{2, 1}, []int{-1, -2}, -1}, {[]int{2, 1}, []int{3}, []int{-1, -2}, 1}, {[]int{3}, []int{1, 1, 1}, []int{1, 2, 3}, 1}, {[]int{3}, []int{2, 1}, []int{0, 0}, 0},
		{[]int{4, 1, 1}, []int{3, 3}, []int{1, 1, 2}, 1}, {[]int{4, 1, 1}, []int{3, 3}, []int{1, 5, 5}, -1}, {[]int{4, 1, 1}, []int{3, 3}, []int{0, 1, 1}, -1}, {[]int{3, 3}, []int{4, 1, 1}, []int{1, 5, 5}, 1},
		{[]int{4, 1, 1}, []int{3, 3}, []int{1, 1, 5}, 1}, {[]int{3, 1, 1, 1}, []int{2, 2, 2}, []int{1, 1, 1, 5}, 1}, {[]int{3, 1, 1, 1}, []int{2, 2, 2}, []int{0, 1, 1, 1}, -1},
		{[]int{2, 2, 2}, []int{2, 2, 2}, []int{5, -5, 3}, 0}, {nil, nil, nil, 0}, {nil, []int{}, []int{5}, 0}, {[]int{1}, []int{1}, []int{-4}, 0}, {[]int{6}, []int{5, 1}, []int{5, -5}, 1},
		{[]int{6}, []int{2, 1, 1, 1, 1}, []int{5, 5, 5, 5, 4}, 1}, {[]int{6}, []int{2, 1, 1, 1, 1}, []int{-5, -5, -5, -5, -5}, 0}, {[]int{5}, ones(5), []int{-5, -5, -5, -5, 5}, -1},
		{[]int{6}, []int{5, 1}, []int{0, 0, 0, 0, 0}, 0}, {[]int{1, 1}, []int{2}, []int{0, 1}, -1},
	} {
		sign, ok := impl.MeanSign(c.a, c.b, c.x)
		checkNumber(t, "MeanSign", [][]int{c.a, c.b, c.x}, sign, ok, c.want, true)
	}
}

// TestMeanSignFewNumbers has just as many numbers as parts, and one less, for the first share and for the second one.
func TestMeanSignFewNumbers(t *testing.T) {
	eachSamePair(func(a []int, b []int) {
		parts := max(len(a), len(b))
		for n := range 6 {
			_, ok := impl.MeanSign(a, b, ones(n))
			if ok != (parts <= n) {
				t.Errorf("MeanSign of %v and %v at %d ones: %v", a, b, n, ok)
			}
		}
	})
}

// TestMeanSignDegrees: shares of two degrees are not compared, at whatever point.
func TestMeanSignDegrees(t *testing.T) {
	eachPair(func(a []int, b []int) {
		if sum(a) == sum(b) {
			return
		}
		for _, x := range [][]int{nil, {0}, {1, 1}, {1, 2, 3}, {5, 0, -5, 5, 5}, ones(5)} {
			sign, ok := impl.MeanSign(a, b, x)
			checkNumber(t, "MeanSign", [][]int{a, b, x}, sign, ok, 0, false)
		}
	})
}

// wantNewton is what MeanNewton is to return, made of means that are divided.
func wantNewton(x []int, k int, all [][]terms) int {
	n := len(x)
	means := []*big.Rat{}
	factor := int64(1)
	for _, i := range []int{k, k - 1, k + 1} {
		count := int64(all[n][i].count())
		means = append(means, big.NewRat(int64(all[n][i].at(x)), count))
		factor *= count * count
	}
	value := squareLess(means[0], means[1], means[2])
	value.Mul(value, big.NewRat(factor, 1))
	return int(value.Num().Int64())
}

// chosenTerms holds, by numbers n and k, the products of k numbers at different places of n.
func chosenTerms() [][]terms {
	all := [][]terms{}
	for n := range 6 {
		all = append(all, nil)
		for k := range 6 {
			all[n] = append(all[n], placesTerms(n, k, false))
		}
	}
	return all
}

// TestPromise80MeanNewton has all points that do not fall, and ones in other orders.
func TestPromise80MeanNewton(t *testing.T) {
	all := chosenTerms()
	none, great := 0, 0
	check := func(x []int) {
		for k := 1; k < len(x); k++ {
			of := []any{x, k}
			value, ok := impl.MeanNewton(x, k)
			checkNumber(t, "MeanNewton", of, value, ok, wantNewton(x, k, all), true)
			back, okb := impl.MeanNewton(backwards(x), k)
			checkNumber(t, "MeanNewton at the point backwards", of, back, okb, value, true)
			if value < 0 || allSame(x) && value != 0 {
				t.Errorf("MeanNewton of %v and %d is %d", x, k, value)
			}
			if value == 0 {
				none++
			}
			great = max(great, value)
		}
	}
	for _, x := range sortedPoints() {
		check(x)
	}
	for n := range 6 {
		for _, x := range meanPoints(n) {
			check(x)
		}
	}
	if none < 100 || great < 100000000 {
		t.Errorf("MeanNewton is 0 %d times, and at most %d", none, great)
	}
}

// TestMeanNewtonKnown holds numbers that were found by hand.
func TestMeanNewtonKnown(t *testing.T) {
	for _, c := range []struct {
		x    []int
		k    int
		want int
	}{
		{[]int{1, 2, 3}, 1, 27}, {[]int{1, 2, 3}, 2, 117}, {[]int{1, 2}, 1, 1}, {[]int{5, -5}, 1, 100}, {[]int{-1, -2}, 1, 1}, {[]int{0, 0}, 1, 0}, {[]int{0, 1}, 1, 1},
		{[]int{0, 0, 1}, 1, 9}, {[]int{0, 0, 1}, 2, 0}, {ones(5), 3, 0}, {[]int{-5, -5, -5, -5, -5}, 4, 0}, {[]int{0, 0, 0, 0, 5}, 1, 2500}, {[]int{0, 0, 0, 5, 5}, 2, 1562500},
	} {
		n, ok := impl.MeanNewton(c.x, c.k)
		checkNumber(t, "MeanNewton", []any{c.x, c.k}, n, ok, c.want, true)
	}
}

// TestMeanNewtonRange: k is from 1 to one less than there are numbers, so that none will do for no number and for one.
func TestMeanNewtonRange(t *testing.T) {
	numbers := append([]int{-6, -5, -4, -3, 0, 1, 2, 3, 4, 5, 6, math.MaxInt - 1, math.MinInt + 1, 1<<62 + 1}, outside...)
	eachPoint(func(x []int) {
		for _, k := range numbers {
			n, ok := impl.MeanNewton(x, k)
			if wanted := k >= 1 && k <= len(x)-1; ok != wanted || !ok && n != 0 {
				t.Errorf("MeanNewton of %v and %d is %d, %v", x, k, n, ok)
			}
		}
	})
	for _, k := range numbers {
		n, ok := impl.MeanNewton(nil, k)
		checkNumber(t, "MeanNewton of no numbers", k, n, ok, 0, false)
	}
}

// wantSquare is the sum of the squares of all differences of two numbers.
func wantSquare(x []int) int {
	total := 0
	for i := range x {
		for k := range i {
			total += (x[i] - x[k]) * (x[i] - x[k])
		}
	}
	return total
}

// meanAllPoints visits all points that do not fall, with the empty one, and ones in other orders.
func meanAllPoints(visit func(x []int)) {
	for _, x := range sortedPoints() {
		visit(x)
	}
	for n := range 6 {
		for _, x := range meanPoints(n) {
			visit(x)
		}
	}
	visit(nil)
}

func TestPromise81MeanSquare(t *testing.T) {
	meanAllPoints(func(x []int) {
		n, ok := impl.MeanSquare(x)
		checkNumber(t, "MeanSquare", x, n, ok, wantSquare(x), true)
		if (n == 0) != allSame(x) {
			t.Errorf("MeanSquare of %v is %d", x, n)
		}
	})
	for _, c := range []struct {
		x    []int
		want int
	}{
		{nil, 0}, {[]int{}, 0}, {[]int{-5}, 0}, {[]int{5, -5}, 100}, {[]int{1, 2, 3}, 6}, {[]int{5, 5, 5, -5, -5}, 600}, {[]int{0, 0, 0, 0, 1}, 4}, {ones(5), 0},
	} {
		n, ok := impl.MeanSquare(c.x)
		checkNumber(t, "MeanSquare", c.x, n, ok, c.want, true)
	}
}

// TestPromise82MeanLog: the product of two power sums less a square is the sum, over all pairs of numbers, of their product to the
// power of k - 1 times the square of their difference.
func TestPromise82MeanLog(t *testing.T) {
	pure := 0
	meanAllPoints(func(x []int) {
		if isPure(x) {
			pure++
		}
		for k := 1; k <= 5; k++ {
			of := []any{x, k}
			value, ok := impl.MeanLog(x, k)
			if !isPure(x) {
				checkNumber(t, "MeanLog", of, value, ok, 0, false)
				continue
			}
			want := 0
			for i := range x {
				for j := range i {
					want += powerSum(k-1, []int{x[i] * x[j]}) * (x[i] - x[j]) * (x[i] - x[j])
				}
			}
			checkNumber(t, "MeanLog", of, value, ok, want, true)
			back, okb := impl.MeanLog(backwards(x), k)
			checkNumber(t, "MeanLog at the point backwards", of, back, okb, value, true)
			if value < 0 || allSame(x) && value != 0 {
				t.Errorf("MeanLog of %v and %d is %d", x, k, value)
			}
		}
	})
	if pure < 400 {
		t.Errorf("%d points are pure", pure)
	}
}

// TestMeanLogKnown holds numbers that were found by hand.
func TestMeanLogKnown(t *testing.T) {
	for _, c := range []struct {
		x    []int
		k    int
		want int
	}{
		{[]int{1, 2, 3}, 1, 6}, {[]int{1, 2, 3}, 2, 20}, {[]int{1, 2}, 5, 16}, {[]int{0, 5}, 1, 25}, {[]int{0, 5}, 2, 0}, {nil, 1, 0}, {[]int{}, 5, 0}, {[]int{5}, 5, 0},
		{[]int{0}, 1, 0}, {[]int{0, 0, 0, 0, 0}, 5, 0}, {[]int{5, 5, 5, 5, 5}, 5, 0}, {[]int{4, 5}, 5, 160000}, {[]int{0, 0, 0, 0, 1}, 1, 4}, {[]int{0, 0, 0, 0, 1}, 2, 0},
	} {
		n, ok := impl.MeanLog(c.x, c.k)
		checkNumber(t, "MeanLog", []any{c.x, c.k}, n, ok, c.want, true)
	}
}

// TestMeanLogRange: k is from 1 to 5, for all pure points, and for others no k will do.
func TestMeanLogRange(t *testing.T) {
	numbers := append([]int{-6, -5, 0, 1, 2, 3, 4, 5, 6, math.MaxInt - 1, math.MinInt + 1, 1<<62 + 1}, outside...)
	eachPoint(func(x []int) {
		for _, k := range numbers {
			n, ok := impl.MeanLog(x, k)
			if wanted := k >= 1 && k <= 5 && isPure(x); ok != wanted || !ok && n != 0 {
				t.Errorf("MeanLog of %v and %d is %d, %v", x, k, n, ok)
			}
		}
	})
}

// wantSchur multiplies, for each one of three numbers, its power by its differences from both others.
func wantSchur(numbers [3]int, t int) int {
	total := 0
	for i, number := range numbers {
		product := powerSum(t, []int{number})
		for k, other := range numbers {
			if k != i {
				product *= number - other
			}
		}
		total += product
	}
	return total
}

func TestPromise83MeanSchur(t *testing.T) {
	for _, x := range lists(3, 0, 5) {
		for power := range 5 {
			of := []any{x, power}
			value, ok := impl.MeanSchur(x[0], x[1], x[2], power)
			checkNumber(t, "MeanSchur", of, value, ok, wantSchur([3]int(x), power), true)
			back, okb := impl.MeanSchur(x[1], x[0], x[2], power)
			checkNumber(t, "MeanSchur exchanged", of, back, okb, value, true)
			if value < 0 || allSame(x) && value != 0 {
				t.Errorf("MeanSchur of %v and %d is %d", x, power, value)
			}
		}
	}
}

// TestMeanSchurKnown holds numbers that were found by hand.
func TestMeanSchurKnown(t *testing.T) {
	for _, c := range [][5]int{
		{1, 2, 3, 1, 6}, {1, 2, 3, 0, 3}, {3, 2, 1, 2, 16}, {0, 0, 0, 0, 0}, {0, 0, 1, 0, 1}, {0, 1, 0, 4, 1}, {0, 0, 5, 4, 15625}, {5, 5, 0, 0, 25}, {5, 5, 0, 1, 0},
		{1, 1, 2, 0, 1}, {1, 1, 2, 3, 8}, {5, 5, 5, 4, 0}, {0, 5, 5, 4, 0}, {1, 1, 0, 0, 1}, {4, 5, 5, 0, 1}, {0, 1, 2, 0, 3}, {0, 1, 2, 1, 3},
	} {
		n, ok := impl.MeanSchur(c[0], c[1], c[2], c[3])
		checkNumber(t, "MeanSchur", c[:4], n, ok, c[4], true)
	}
}

// TestMeanSchurRange: each number is from 0 to 5, and the power from 0 to 4.
func TestMeanSchurRange(t *testing.T) {
	numbers := append([]int{-6, -5, -4, -3, 6, 10, math.MaxInt - 1, math.MinInt + 1, math.MinInt32, 1<<62 + 3}, outside...)
	for _, x := range lists(3, 0, 5) {
		for _, number := range append(numbers, 5) {
			n, ok := impl.MeanSchur(x[0], x[1], x[2], number)
			checkNumber(t, "MeanSchur", []any{x, number}, n, ok, 0, false)
		}
	}
	for _, number := range numbers {
		for power := -1; power <= 5; power++ {
			for _, other := range []int{0, 1, 5, number} {
				for _, x := range [][3]int{{number, 0, other}, {other, number, 5}, {1, other, number}} {
					n, ok := impl.MeanSchur(x[0], x[1], x[2], power)
					checkNumber(t, "MeanSchur", []any{x, power}, n, ok, 0, false)
				}
			}
		}
	}
}

func TestPromise84MeanPure(t *testing.T) {
	holds, others := 0, 0
	meanAllPoints(func(x []int) {
		if impl.MeanPure(x) != isPure(x) {
			t.Errorf("MeanPure of %v is %v", x, !isPure(x))
		}
		if !impl.MeanPure(x) {
			others++
			return
		}
		holds++
		full, okf := impl.AtFull(2, x)
		chosen, okc := impl.AtChosen(2, x)
		if !okf || !okc || full < 0 || chosen < 0 || !impl.MeanPure(backwards(x)) {
			t.Errorf("MeanPure of %v, with the full sum %d and the chosen one %d", x, full, chosen)
		}
	})
	if holds < 400 || others < 2000 {
		t.Errorf("%d points are pure and %d are not", holds, others)
	}
}

// TestMeanPureKnown has a negative number at each place, and lists that are no points.
func TestMeanPureKnown(t *testing.T) {
	for n := range 6 {
		for _, number := range []int{0, 1, 5} {
			if x := slices.Repeat([]int{number}, n); !impl.MeanPure(x) {
				t.Errorf("MeanPure does not hold for %v", x)
			}
			for i := range n {
				for _, negative := range []int{-1, -5} {
					x := slices.Repeat([]int{number}, n)
					x[i] = negative
					if impl.MeanPure(x) {
						t.Errorf("MeanPure holds for %v", x)
					}
				}
			}
		}
	}
	if !impl.MeanPure(nil) {
		t.Error("MeanPure does not hold for the nil point")
	}
	for _, x := range noPoints() {
		if impl.MeanPure(x) {
			t.Errorf("MeanPure holds for %v", x[:min(len(x), 10)])
		}
	}
}

// wantStep is what MeanStep is to return, if something, with the parts and a 0 behind them.
func wantStep(a []int, i int, k int) ([]int, bool) {
	parts := append(slices.Clone(a), 0)
	if i < 0 || i >= len(a) || k < 0 || k > len(a) || parts[i]-parts[k] < 2 {
		return nil, false
	}
	parts[i], parts[k] = parts[i]-1, parts[k]+1
	slices.SortFunc(parts, func(x int, y int) int { return y - x })
	return slices.DeleteFunc(parts, func(part int) bool { return part == 0 }), true
}

func TestPromise85MeanStep(t *testing.T) {
	told, behind := 0, 0
	eachShare(func(d int, a []int) {
		for i := -2; i <= 8; i++ {
			for k := -2; k <= 8; k++ {
				of := []any{a, i, k}
				b, ok := impl.MeanStep(a, i, k)
				want, wanted := wantStep(a, i, k)
				checkList(t, "MeanStep", of, b, ok, want, wanted)
				if !ok {
					continue
				}
				told++
				if k == len(a) {
					behind++
				}
				if !impl.ShareIn(b) || sum(b) != d || !impl.ShareAbove(a, b) || slices.Equal(a, b) || placeIn(b) <= placeIn(a) {
					t.Errorf("MeanStep of %v is %v", of, b)
				}
				first, _ := impl.SharePlace(a)
				if second, ok := impl.SharePlace(b); !ok || second <= first {
					t.Errorf("MeanStep of %v has the place %d, %v behind %d", of, second, ok, first)
				}
			}
		}
	})
	if told < 40 || behind < 20 {
		t.Errorf("%d steps, %d of them to the place behind the last part", told, behind)
	}
}

// TestMeanStepsLeadDown: from each share steps lead to all shares below it and to no others.
func TestMeanStepsLeadDown(t *testing.T) {
	eachShare(func(d int, a []int) {
		seen := [][]int{a}
		for n := 0; n < len(seen); n++ {
			for i := range 6 {
				for k := range 7 {
					b, ok := impl.MeanStep(seen[n], i, k)
					if ok && !slices.ContainsFunc(seen, func(c []int) bool { return slices.Equal(b, c) }) {
						seen = append(seen, b)
					}
				}
			}
		}
		for _, b := range knownShares()[d] {
			if slices.ContainsFunc(seen, func(c []int) bool { return slices.Equal(b, c) }) != isAbove(a, b) {
				t.Errorf("steps from %v lead to %v", a, seen)
			}
		}
	})
}

// TestMeanStepKnown holds steps that are written out, or that are none: parts that are the same, or just 1 greater, and places behind.
func TestMeanStepKnown(t *testing.T) {
	for _, c := range []struct {
		a    []int
		i, k int
		want []int
	}{
		{[]int{2}, 0, 1, []int{1, 1}}, {[]int{6}, 0, 1, []int{5, 1}}, {[]int{3, 1}, 0, 1, []int{2, 2}}, {[]int{3, 1}, 0, 2, []int{2, 1, 1}},
		{[]int{3, 3}, 0, 2, []int{3, 2, 1}}, {[]int{3, 3}, 1, 2, []int{3, 2, 1}}, {[]int{2, 2, 2}, 0, 3, []int{2, 2, 1, 1}}, {[]int{4, 1, 1}, 0, 1, []int{3, 2, 1}},
		{[]int{4, 1, 1}, 0, 2, []int{3, 2, 1}}, {[]int{4, 1, 1}, 0, 3, []int{3, 1, 1, 1}}, {[]int{3, 2, 1}, 0, 2, []int{2, 2, 2}}, {[]int{3, 2, 1}, 1, 3, []int{3, 1, 1, 1}},
		{[]int{3, 2, 1}, 0, 3, []int{2, 2, 1, 1}}, {[]int{2, 1, 1, 1, 1}, 0, 5, ones(6)}, {[]int{5, 1}, 0, 1, []int{4, 2}}, {[]int{4, 2}, 1, 2, []int{4, 1, 1}},
		{[]int{2, 1}, 0, 1, nil}, {[]int{2, 1}, 1, 2, nil}, {[]int{2, 1}, 0, 3, nil}, {[]int{2}, 0, 0, nil}, {[]int{2}, 0, 2, nil}, {[]int{2}, 1, 0, nil}, {[]int{2}, 1, 1, nil},
		{[]int{3, 3}, 0, 1, nil}, {[]int{3, 1}, 1, 0, nil}, {[]int{3, 1}, 2, 0, nil}, {[]int{3, 1}, 0, 3, nil}, {[]int{3, 1}, -1, 1, nil}, {[]int{3, 1}, 0, -1, nil},
		{nil, 0, 0, nil}, {[]int{}, 0, 1, nil}, {nil, -1, 0, nil}, {[]int{1}, 0, 1, nil}, {ones(6), 0, 6, nil}, {ones(6), 5, 6, nil}, {ones(6), 6, 6, nil}, {ones(6), 7, 6, nil},
	} {
		b, ok := impl.MeanStep(c.a, c.i, c.k)
		checkList(t, "MeanStep", []any{c.a, c.i, c.k}, b, ok, c.want, c.want != nil)
	}
}

func TestMeanStepOfOtherParts(t *testing.T) {
	numbers := append([]int{-6, -3, 9, math.MaxInt - 1, math.MinInt + 1, math.MinInt32, 1<<62 + 1}, outside...)
	eachShare(func(_ int, a []int) {
		for _, number := range numbers {
			for _, other := range append(numbers, 0, 1, 2, 3, 4, 5, 6) {
				b, ok := impl.MeanStep(a, number, other)
				checkList(t, "MeanStep", []any{a, number, other}, b, ok, nil, false)
				b, ok = impl.MeanStep(a, other, number)
				checkList(t, "MeanStep", []any{a, other, number}, b, ok, nil, false)
			}
		}
	})
}

func TestMeanTermsOfOtherNumbers(t *testing.T) {
	for _, n := range append([]int{6, -5, math.MaxInt - 1, math.MinInt + 1, 1<<62 + 1}, outside...) {
		eachShare(func(_ int, a []int) {
			value, ok := impl.MeanTerms(a, n)
			checkNumber(t, "MeanTerms", []any{a, n}, value, ok, 0, false)
		})
	}
}

func TestMeansOfNoShares(t *testing.T) {
	points := [][]int{nil, {0}, {1, 1}, {1, 2, 3}, {5, 0, -5, 5, 5}, {6}, make([]int, 6)}
	for _, a := range noShares() {
		brief := a[:min(len(a), 10)]
		for n := -1; n <= 6; n++ {
			value, ok := impl.MeanTerms(a, n)
			checkNumber(t, "MeanTerms", []any{brief, n}, value, ok, 0, false)
			for k := -1; k <= 6; k++ {
				b, ok := impl.MeanStep(a, n, k)
				checkList(t, "MeanStep", []any{brief, n, k}, b, ok, nil, false)
			}
		}
		for _, b := range [][]int{nil, {1}, {2}, {1, 1}, {2, 1}, {6}, ones(5), {7}, {0}, a} {
			for _, x := range points {
				of := [][]int{brief, b[:min(len(b), 10)], x}
				sign, ok := impl.MeanSign(a, b, x)
				checkNumber(t, "MeanSign", of, sign, ok, 0, false)
				sign, ok = impl.MeanSign(b, a, x)
				checkNumber(t, "MeanSign exchanged", of, sign, ok, 0, false)
			}
		}
	}
}

func TestMeansOfNoPoints(t *testing.T) {
	for _, x := range noPoints() {
		brief := x[:min(len(x), 10)]
		for _, pair := range [][2][]int{{nil, nil}, {{1}, {1}}, {{2}, {1, 1}}, {{6}, {5, 1}}, {{0}, {0}}, {{7}, {7}}, {{1}, {2}}} {
			sign, ok := impl.MeanSign(pair[0], pair[1], x)
			checkNumber(t, "MeanSign", []any{pair, brief}, sign, ok, 0, false)
		}
		for k := -1; k <= 6; k++ {
			n, ok := impl.MeanNewton(x, k)
			checkNumber(t, "MeanNewton", []any{brief, k}, n, ok, 0, false)
			n, ok = impl.MeanLog(x, k)
			checkNumber(t, "MeanLog", []any{brief, k}, n, ok, 0, false)
		}
		n, ok := impl.MeanSquare(x)
		checkNumber(t, "MeanSquare", brief, n, ok, 0, false)
	}
}

// TestMeansMemory: arguments stay as they are, and steps share memory with nothing.
func TestMeansMemory(t *testing.T) {
	for _, x := range [][]int{{}, {2}, {3, 1}, {1, 2, 3}, {5, 0, 0, 5, 4}, {4, -5, 3, -1, 0}} {
		y := spaced(x)
		eachSamePair(func(a []int, b []int) {
			c, d := spaced(a), spaced(b)
			impl.MeanSign(c, d, y)
			impl.MeanSign(c, c, y)
			impl.MeanTerms(c, len(y))
			unspoilt(t, "a function of means", c, a)
			unspoilt(t, "a function of means", d, b)
		})
		for k := range 7 {
			impl.MeanNewton(y, k)
			impl.MeanLog(y, k)
		}
		impl.MeanSquare(y)
		impl.MeanPure(y)
		unspoilt(t, "a function of means", y, x)
	}
	eachShare(func(_ int, a []int) {
		b := spaced(a)
		all := [][]int{b}
		for range 2 {
			for i := range 7 {
				for k := range 7 {
					if c, ok := impl.MeanStep(b, i, k); ok {
						all = append(all, c)
					}
				}
			}
		}
		apart(t, "MeanStep", all...)
		unspoilt(t, "MeanStep", b, a)
	})
}

// TestMeansAtOnce asks at once: what one call finds does not show in another one.
func TestMeansAtOnce(t *testing.T) {
	var calls sync.WaitGroup
	all := chosenTerms()
	for n := range 6 {
		plain := allPlainTerms(n)
		for _, x := range [][]int{{1, 2, 3, 4, 5}, {5, 4, 0, 1, 2}, {-3, 2, 5, -1, 4}} {
			x = x[:n]
			calls.Add(1)
			go func() {
				defer calls.Done()
				means := meansOf(x, plain)
				eachSamePair(func(a []int, b []int) { checkSign(t, a, b, x, means) })
				for k := 1; k < n; k++ {
					value, ok := impl.MeanNewton(x, k)
					checkNumber(t, "MeanNewton", []any{x, k}, value, ok, wantNewton(x, k, all), true)
				}
			}()
		}
	}
	calls.Wait()
}
