package tests

import (
	"math"
	"math/big"
	"slices"
	"sync"
	"testing"

	"loop.example/symmetricsums/impl"
)

const coefMax = 1000000

func ways() []string {
	return []string{"m", "e", "h", "p", "s"}
}

func otherWays() []string {
	all := slices.DeleteFunc(tableLettersOutside(), func(way string) bool { return way == "m" })
	return append(all, "ms", "mehps", "hp", "m\xff", "\xffm", "mm")
}

// outsideNumbers holds numbers that are beyond CoefMax.
func outsideNumbers() []int {
	return []int{
		coefMax + 1, -coefMax - 1, 2 * coefMax, -2 * coefMax, math.MaxInt, math.MinInt, math.MaxInt - 1, math.MinInt + 1,
		math.MaxInt32, math.MinInt32, 1 << 32, -1 << 32, 1<<32 + 1, 1<<62 + 3,
	}
}

// powersOf holds the numbers of products of powers of six letters by which a share is told in one way, straight from the definition.
func powersOf(kinds map[string][]sequences, way string, d int, a []int) []int {
	shares := knownShares()[d]
	numbers := make([]int, len(shares))
	rows := []sequences{}
	for _, part := range a {
		rows = append(rows, kinds[way][part])
	}
	products := stacked(rows)
	for i, b := range shares {
		powers := [6]int{}
		copy(powers[:], b)
		switch way {
		case "m":
			if slices.Equal(a, b) {
				numbers[i] = 1
			}
		case "s":
			numbers[i] = countFillings(d, a, b)
		default:
			numbers[i] = products[powers]
		}
	}
	return numbers
}

// wayTables holds, by way and degree, a row for each share with the numbers of plain sums by which it is told.
var wayTables = sync.OnceValue(func() map[string][][][]int {
	kinds := map[string][]sequences{"m": make([]sequences, 7), "s": make([]sequences, 7)}
	for part := range 7 {
		kinds["e"] = append(kinds["e"], rowsOf(part, func(row []int) bool { return slices.Max(row) <= 1 }))
		kinds["h"] = append(kinds["h"], rowsOf(part, func([]int) bool { return true }))
		kinds["p"] = append(kinds["p"], rowsOf(part, func(row []int) bool { return slices.Max(row) == sum(row) }))
	}
	all := map[string][][][]int{}
	for _, way := range ways() {
		for d, shares := range knownShares() {
			table := [][]int{}
			for _, a := range shares {
				table = append(table, powersOf(kinds, way, d, a))
			}
			all[way] = append(all[way], table)
		}
	}
	return all
})

// plainNumbers holds the numbers of a sum told in the way m, however great.
func plainNumbers(f impl.Sum) []int {
	numbers := make([]int, len(f.Coefs))
	for i, row := range wayTables()[f.Way][f.Degree] {
		for k, entry := range row {
			numbers[k] += f.Coefs[i] * entry
		}
	}
	return numbers
}

// splits holds, by the sum, all lists of six powers.
var splits = sync.OnceValue(func() []sequences {
	all := []sequences{}
	for d := range 7 {
		all = append(all, rowsOf(d, func([]int) bool { return true }))
	}
	return all
})

// solve finds the numbers that times the rows of a table add up to the numbers told, by taking multiples of equations off one another.
func solve(table [][]int, numbers []int) []*big.Rat {
	size := len(table)
	equations := make([][]*big.Rat, size)
	for k := range equations {
		for i := range table {
			equations[k] = append(equations[k], big.NewRat(int64(table[i][k]), 1))
		}
		equations[k] = append(equations[k], big.NewRat(int64(numbers[k]), 1))
	}
	for i := range size {
		pivot := i
		for equations[pivot][i].Sign() == 0 {
			pivot++
		}
		equations[i], equations[pivot] = equations[pivot], equations[i]
		first := new(big.Rat).Inv(equations[i][i])
		for j := range equations[i] {
			equations[i][j] = new(big.Rat).Mul(equations[i][j], first)
		}
		for k := range equations {
			if k == i || equations[k][i].Sign() == 0 {
				continue
			}
			times := new(big.Rat).Set(equations[k][i])
			for j := range equations[k] {
				equations[k][j] = new(big.Rat).Sub(equations[k][j], new(big.Rat).Mul(times, equations[i][j]))
			}
		}
	}
	found := []*big.Rat{}
	for i := range size {
		found = append(found, equations[i][size])
	}
	return found
}

// wholeSum makes a sum of numbers if they are whole and not beyond CoefMax.
func wholeSum(way string, d int, numbers []*big.Rat) (impl.Sum, bool) {
	f := impl.Sum{Way: way, Degree: d}
	for _, n := range numbers {
		if !n.IsInt() || new(big.Rat).Abs(n).Cmp(big.NewRat(coefMax, 1)) > 0 {
			return impl.Sum{}, false
		}
		f.Coefs = append(f.Coefs, int(n.Num().Int64()))
	}
	return f, true
}

// wantChange is what SumChange is to return.
func wantChange(f impl.Sum, way string) (impl.Sum, bool) {
	return wholeSum(way, f.Degree, solve(wayTables()[way][f.Degree], plainNumbers(f)))
}

// productNumbers holds the numbers of the product of two sums told in the way m, however great: in the product, powers of the
// letters are made of powers of both sums in all ways.
func productNumbers(f impl.Sum, g impl.Sum) []*big.Rat {
	numbers := []*big.Rat{}
	ofF, ofG := plainNumbers(f), plainNumbers(g)
	for _, c := range knownShares()[f.Degree+g.Degree] {
		total := new(big.Rat)
		for second := range splits()[g.Degree] {
			first := [6]int{}
			copy(first[:], c)
			for i, power := range second {
				first[i] -= power
			}
			if slices.Min(first[:]) >= 0 {
				n := big.NewRat(int64(ofF[placeOfPowers(first)]), 1)
				total.Add(total, n.Mul(n, big.NewRat(int64(ofG[placeOfPowers(second)]), 1)))
			}
		}
		numbers = append(numbers, total)
	}
	return numbers
}

// wantMake is what SumMake is to return.
func wantMake(f impl.Sum, g impl.Sum) (impl.Sum, bool) {
	d := f.Degree + g.Degree
	if d > 6 {
		return impl.Sum{}, false
	}
	return wholeSum("m", d, productNumbers(f, g))
}

// placeOfPowers is the place of the share that six powers make, put in order and without noughts.
func placeOfPowers(powers [6]int) int {
	a := slices.DeleteFunc(slices.Clone(powers[:]), func(power int) bool { return power == 0 })
	slices.SortFunc(a, func(x int, y int) int { return y - x })
	return slices.IndexFunc(knownShares()[sum(a)], func(b []int) bool { return slices.Equal(a, b) })
}

// wantAt is what SumAt is to return.
func wantAt(t *testing.T, f impl.Sum, x []int) int {
	t.Helper()
	total := 0
	for i, a := range knownShares()[f.Degree] {
		value, ok := impl.AtShare(f.Way, a, x)
		if f.Way == "s" {
			value, ok = impl.AtDiagram(a, x)
		}
		if !ok {
			t.Fatalf("no value of %v at %v in the way %s", a, x, f.Way)
		}
		total += f.Coefs[i] * value
	}
	return total
}

// listsOfNumbers holds lists of n numbers for sums: noughts, small numbers, numbers at CoefMax, and numbers anywhere between.
func listsOfNumbers(n int, seed uint64) [][]int {
	next := drawer(seed)
	all := [][]int{make([]int, n), slices.Repeat([]int{coefMax}, n), slices.Repeat([]int{-coefMax}, n)}
	for _, limit := range []int{1, 1, 2, 20, 3000, coefMax} {
		numbers := []int{}
		for range n {
			numbers = append(numbers, next(limit))
		}
		all = append(all, numbers)
	}
	turns := []int{}
	for i := range n {
		turns = append(turns, coefMax*(1-2*(i%2)))
	}
	return append(all, turns)
}

// unitSums holds the sums of all ways with one number for one share and 0 for all others.
func unitSums(n int) []impl.Sum {
	all := []impl.Sum{}
	for _, way := range ways() {
		eachShare(func(d int, a []int) {
			f := impl.Sum{Way: way, Degree: d, Coefs: make([]int, len(knownShares()[d]))}
			f.Coefs[slices.IndexFunc(knownShares()[d], func(b []int) bool { return slices.Equal(a, b) })] = n
			all = append(all, f)
		})
	}
	return all
}

// mixedSums holds sums of all ways and degrees with the numbers of listsOfNumbers.
func mixedSums() []impl.Sum {
	all := []impl.Sum{}
	for k, way := range ways() {
		for d, shares := range knownShares() {
			for _, numbers := range listsOfNumbers(len(shares), uint64(10*d+k)) {
				all = append(all, impl.Sum{Way: way, Degree: d, Coefs: numbers})
			}
		}
	}
	return all
}

func someSums() []impl.Sum {
	return append(unitSums(1), mixedSums()...)
}

// noSums holds what is no sum.
func noSums() []impl.Sum {
	all := []impl.Sum{{}, {Way: "m"}, {Coefs: []int{1}}, {Degree: 1, Coefs: []int{1}}, {Way: "m", Degree: 7, Coefs: make([]int, 15)}}
	for _, way := range otherWays() {
		all = append(all, impl.Sum{Way: way, Degree: 0, Coefs: []int{1}}, impl.Sum{Way: way, Degree: 3, Coefs: []int{1, 0, 2}})
	}
	for _, way := range ways() {
		for _, d := range outside {
			for n := range 31 {
				all = append(all, impl.Sum{Way: way, Degree: d, Coefs: make([]int, n)})
			}
		}
		for d, shares := range knownShares() {
			for _, n := range []int{0, len(shares) - 1, len(shares) + 1, 2 * len(shares), 100000} {
				all = append(all, impl.Sum{Way: way, Degree: d, Coefs: make([]int, n)})
			}
			for i := range shares {
				for _, n := range outsideNumbers() {
					numbers := make([]int, len(shares))
					numbers[i] = n
					all = append(all, impl.Sum{Way: way, Degree: d, Coefs: numbers})
				}
			}
		}
	}
	return all
}

func sameSum(f impl.Sum, g impl.Sum) bool {
	return f.Way == g.Way && f.Degree == g.Degree && slices.Equal(f.Coefs, g.Coefs)
}

// brief shortens what is no sum for a message.
func brief(f impl.Sum) impl.Sum {
	return impl.Sum{Way: f.Way[:min(len(f.Way), 10)], Degree: f.Degree, Coefs: f.Coefs[:min(len(f.Coefs), 15)]}
}

// checkSum compares a sum that was told with the one that is wanted; without one it must be the zero value.
func checkSum(t *testing.T, name string, of any, got impl.Sum, ok bool, want impl.Sum, wanted bool) {
	t.Helper()
	if ok != wanted || !sameSum(got, want) {
		t.Errorf("%s of %v is %v, %v, not %v, %v", name, of, got, ok, want, wanted)
	}
}

func valueAt(t *testing.T, f impl.Sum, x []int) int {
	t.Helper()
	value, ok := impl.SumAt(f, x)
	if !ok {
		t.Errorf("SumAt of %v at %v fails", f, x)
	}
	return value
}

func TestCoefMax(t *testing.T) {
	if impl.CoefMax != coefMax {
		t.Errorf("CoefMax is %d", impl.CoefMax)
	}
}

func TestSumIn(t *testing.T) {
	for _, f := range someSums() {
		if !impl.SumIn(f) {
			t.Errorf("SumIn does not hold for %v", f)
		}
	}
	for _, f := range noSums() {
		if impl.SumIn(f) {
			t.Errorf("SumIn holds for %v", brief(f))
		}
	}
}

func TestPromise30SumIn(t *testing.T) {
	for _, f := range someSums() {
		if !impl.SumIn(f) {
			t.Fatalf("SumIn does not hold for %v", f)
		}
		g, ok := impl.SumTimes(f, 1)
		checkSum(t, "SumTimes by 1", f, g, ok, f, true)
		if !impl.SumSame(f, f) {
			t.Errorf("SumSame does not hold for %v and itself", f)
		}
	}
}

func TestPromise31SumOf(t *testing.T) {
	for _, way := range ways() {
		for d, shares := range knownShares() {
			for i, a := range shares {
				want := impl.Sum{Way: way, Degree: d, Coefs: make([]int, len(shares))}
				want.Coefs[i] = 1
				f, ok := impl.SumOf(way, a)
				checkSum(t, "SumOf "+way, a, f, ok, want, true)
				for _, x := range [][]int{{1, 2}, {}, {3}, {-1, 2, 0, 4, -5}} {
					value, ok := impl.AtShare(way, a, x)
					if way == "s" {
						value, ok = impl.AtDiagram(a, x)
					}
					if !ok || valueAt(t, f, x) != value {
						t.Errorf("SumAt of SumOf %s and %v at %v is not %d, %v", way, a, x, value, ok)
					}
				}
				if n, ok := impl.SumCount(f); !ok || n != 1 {
					t.Errorf("SumCount of SumOf %s and %v is %d, %v", way, a, n, ok)
				}
			}
		}
	}
}

func TestSumOfInvalid(t *testing.T) {
	for _, a := range append(noShares(), nil, []int{1}, []int{3, 2, 1}) {
		for _, way := range otherWays() {
			f, ok := impl.SumOf(way, a)
			checkSum(t, "SumOf another way", a[:min(len(a), 10)], f, ok, impl.Sum{}, false)
		}
	}
	for _, a := range noShares() {
		for _, way := range ways() {
			f, ok := impl.SumOf(way, a)
			checkSum(t, "SumOf "+way, a[:min(len(a), 10)], f, ok, impl.Sum{}, false)
		}
	}
}

// wantAdd is what SumAdd is to return.
func wantAdd(f impl.Sum, g impl.Sum) (impl.Sum, bool) {
	if f.Way != g.Way || f.Degree != g.Degree {
		return impl.Sum{}, false
	}
	numbers := []*big.Rat{}
	for i := range f.Coefs {
		numbers = append(numbers, big.NewRat(int64(f.Coefs[i]+g.Coefs[i]), 1))
	}
	return wholeSum(f.Way, f.Degree, numbers)
}

func TestPromise32SumAdd(t *testing.T) {
	told, beyond := 0, 0
	for _, f := range mixedSums() {
		for _, g := range mixedSums() {
			if f.Way != g.Way || f.Degree != g.Degree {
				continue
			}
			want, wanted := wantAdd(f, g)
			h, ok := impl.SumAdd(f, g)
			checkSum(t, "SumAdd", []impl.Sum{f, g}, h, ok, want, wanted)
			back, okb := impl.SumAdd(g, f)
			checkSum(t, "SumAdd exchanged", []impl.Sum{f, g}, back, okb, want, wanted)
			if !ok {
				beyond++
				continue
			}
			told++
			if x := []int{2, -1}; valueAt(t, h, x) != valueAt(t, f, x)+valueAt(t, g, x) {
				t.Errorf("SumAt of SumAdd of %v and %v at %v is not the sum of both", f, g, x)
			}
		}
	}
	if told == 0 || beyond == 0 {
		t.Errorf("%d sums told, %d beyond CoefMax", told, beyond)
	}
}

// TestSumAddLimits adds what just fits and what just does not, at each place.
func TestSumAddLimits(t *testing.T) {
	for _, f := range unitSums(coefMax - 1) {
		one, two := slices.Clone(f.Coefs), slices.Clone(f.Coefs)
		for i := range one {
			one[i], two[i] = min(one[i], 1), min(two[i], 2)
		}
		for _, sign := range []int{1, -1} {
			times := func(numbers []int) impl.Sum {
				g := impl.Sum{Way: f.Way, Degree: f.Degree}
				for _, n := range numbers {
					g.Coefs = append(g.Coefs, sign*n)
				}
				return g
			}
			full := slices.Clone(f.Coefs)
			for i := range full {
				full[i] += one[i]
			}
			g, ok := impl.SumAdd(times(f.Coefs), times(one))
			checkSum(t, "SumAdd up to CoefMax", f, g, ok, times(full), true)
			g, ok = impl.SumAdd(times(f.Coefs), times(two))
			checkSum(t, "SumAdd beyond CoefMax", f, g, ok, impl.Sum{}, false)
		}
	}
}

func TestSumAddOfTwoKinds(t *testing.T) {
	for _, f := range unitSums(1) {
		for _, g := range unitSums(1) {
			if f.Way != g.Way || f.Degree != g.Degree {
				h, ok := impl.SumAdd(f, g)
				checkSum(t, "SumAdd", []impl.Sum{f, g}, h, ok, impl.Sum{}, false)
			}
		}
	}
}

func TestPromise33SumTimes(t *testing.T) {
	for _, f := range someSums() {
		for _, k := range []int{0, 1, -1, 2, -2, 3, 333, 50000, coefMax / 2, -coefMax / 2, coefMax/2 + 1, coefMax - 1, coefMax, -coefMax} {
			numbers := []*big.Rat{}
			for _, n := range f.Coefs {
				numbers = append(numbers, big.NewRat(int64(n)*int64(k), 1))
			}
			want, wanted := wholeSum(f.Way, f.Degree, numbers)
			g, ok := impl.SumTimes(f, k)
			checkSum(t, "SumTimes", []any{f, k}, g, ok, want, wanted)
			if x := []int{1, 2}; ok && valueAt(t, g, x) != k*valueAt(t, f, x) {
				t.Errorf("SumAt of %v times %d at %v is not so many times that of the sum", f, k, x)
			}
		}
	}
}

func TestSumTimesOtherNumbers(t *testing.T) {
	for _, f := range append(unitSums(0), unitSums(1)...) {
		for _, k := range outsideNumbers() {
			g, ok := impl.SumTimes(f, k)
			checkSum(t, "SumTimes", []any{f, k}, g, ok, impl.Sum{}, false)
		}
	}
}

func TestPromise34SumPlain(t *testing.T) {
	told, beyond := 0, 0
	for _, f := range someSums() {
		want, wanted := wantChange(f, "m")
		g, ok := impl.SumPlain(f)
		checkSum(t, "SumPlain", f, g, ok, want, wanted)
		if !ok {
			beyond++
			continue
		}
		told++
		again, ok := impl.SumPlain(g)
		checkSum(t, "SumPlain", g, again, ok, g, true)
		if !impl.SumSame(f, g) {
			t.Errorf("SumSame does not hold for %v and %v", f, g)
		}
		if x := []int{1, -2, 3}; valueAt(t, f, x) != valueAt(t, g, x) {
			t.Errorf("SumAt of %v and of %v at %v are not the same", f, g, x)
		}
	}
	if told == 0 || beyond == 0 {
		t.Errorf("%d sums told, %d beyond CoefMax", told, beyond)
	}
}

func TestPromise35SumChange(t *testing.T) {
	told, failed := map[string]int{}, map[string]int{}
	for _, f := range someSums() {
		for _, way := range ways() {
			want, wanted := wantChange(f, way)
			g, ok := impl.SumChange(f, way)
			checkSum(t, "SumChange to "+way, f, g, ok, want, wanted)
			if !ok {
				failed[way]++
				continue
			}
			told[way]++
			back, ok := impl.SumChange(g, f.Way)
			checkSum(t, "SumChange back to "+f.Way, g, back, ok, f, true)
			if x := []int{1, 2, 3}; valueAt(t, f, x) != valueAt(t, g, x) {
				t.Errorf("SumAt of %v and of %v at %v are not the same", f, g, x)
			}
		}
	}
	for _, way := range ways() {
		if told[way] < 50 || failed[way] < 10 {
			t.Errorf("%d sums told in the way %s, %d not", told[way], way, failed[way])
		}
	}
}

// TestSumChangeKnown holds changes that are written out.
func TestSumChangeKnown(t *testing.T) {
	known := []struct {
		f     impl.Sum
		way   string
		coefs []int
	}{
		{impl.Sum{Way: "s", Degree: 3, Coefs: []int{0, 1, 0}}, "e", []int{-1, 1, 0}},
		{impl.Sum{Way: "s", Degree: 3, Coefs: []int{0, 1, 0}}, "h", []int{-1, 1, 0}},
		{impl.Sum{Way: "s", Degree: 3, Coefs: []int{0, 1, 0}}, "m", []int{0, 1, 2}},
		{impl.Sum{Way: "s", Degree: 3, Coefs: []int{0, 3, 0}}, "p", []int{-1, 0, 1}},
		{impl.Sum{Way: "s", Degree: 3, Coefs: []int{0, 1, 0}}, "p", nil},
		{impl.Sum{Way: "s", Degree: 3, Coefs: []int{0, 2, 0}}, "p", nil},
		{impl.Sum{Way: "s", Degree: 3, Coefs: []int{1, 1, 1}}, "p", nil},
		{impl.Sum{Way: "s", Degree: 3, Coefs: []int{1, 2, 1}}, "p", []int{0, 0, 1}},
		{impl.Sum{Way: "h", Degree: 2, Coefs: []int{1, 0}}, "p", nil},
		{impl.Sum{Way: "h", Degree: 2, Coefs: []int{2, 0}}, "p", []int{1, 1}},
		{impl.Sum{Way: "e", Degree: 2, Coefs: []int{2, 0}}, "p", []int{-1, 1}},
		{impl.Sum{Way: "e", Degree: 2, Coefs: []int{coefMax, 0}}, "p", []int{-coefMax / 2, coefMax / 2}},
		{impl.Sum{Way: "e", Degree: 2, Coefs: []int{coefMax - 1, 0}}, "p", nil},
		{impl.Sum{Way: "e", Degree: 2, Coefs: []int{-coefMax, 0}}, "p", []int{coefMax / 2, -coefMax / 2}},
		{impl.Sum{Way: "h", Degree: 2, Coefs: []int{1, 0}}, "e", []int{-1, 1}},
		{impl.Sum{Way: "p", Degree: 3, Coefs: []int{1, 0, 0}}, "h", []int{3, -3, 1}},
		{impl.Sum{Way: "p", Degree: 3, Coefs: []int{1, 0, 0}}, "e", []int{3, -3, 1}},
		{impl.Sum{Way: "p", Degree: 3, Coefs: []int{1, 0, 0}}, "s", []int{1, -1, 1}},
		{impl.Sum{Way: "m", Degree: 3, Coefs: []int{0, 1, 0}}, "p", []int{-1, 1, 0}},
		{impl.Sum{Way: "m", Degree: 3, Coefs: []int{0, 0, 6}}, "p", []int{2, -3, 1}},
		{impl.Sum{Way: "m", Degree: 3, Coefs: []int{0, 0, 3}}, "p", nil},
		{impl.Sum{Way: "h", Degree: 6, Coefs: []int{720, 0, 0, 0, 0, 0, 0, 0, 0, 0, 0}}, "p", []int{120, 144, 90, 90, 40, 120, 40, 15, 45, 15, 1}},
		{impl.Sum{Way: "h", Degree: 6, Coefs: []int{360, 0, 0, 0, 0, 0, 0, 0, 0, 0, 0}}, "p", nil},
		{impl.Sum{Way: "e", Degree: 6, Coefs: []int{720, 0, 0, 0, 0, 0, 0, 0, 0, 0, 0}}, "p", []int{-120, 144, 90, -90, 40, -120, 40, -15, 45, -15, 1}},
	}
	for _, c := range known {
		g, ok := impl.SumChange(c.f, c.way)
		want := impl.Sum{}
		if c.coefs != nil {
			want = impl.Sum{Way: c.way, Degree: c.f.Degree, Coefs: c.coefs}
		}
		checkSum(t, "SumChange to "+c.way, c.f, g, ok, want, c.coefs != nil)
	}
}

func TestSumChangeOtherWays(t *testing.T) {
	for _, f := range append(someSums(), noSums()[:3]...) {
		for _, way := range otherWays() {
			g, ok := impl.SumChange(f, way)
			checkSum(t, "SumChange to another way", f, g, ok, impl.Sum{}, false)
		}
	}
}

// TestSumChangeBeyond takes sums that are beyond CoefMax in the ways m and s, but not in those in which they are told:
// what is on the way to a result may be beyond it.
func TestSumChangeBeyond(t *testing.T) {
	last := make([]int, 11)
	last[10] = coefMax
	for _, way := range []string{"e", "h", "p"} {
		f := impl.Sum{Way: way, Degree: 6, Coefs: last}
		for _, other := range []string{"e", "h", "p"} {
			want := impl.Sum{Way: other, Degree: 6, Coefs: last}
			g, ok := impl.SumChange(f, other)
			checkSum(t, "SumChange to "+other, f, g, ok, want, true)
			if !impl.SumSame(f, want) {
				t.Errorf("SumSame does not hold for %v and %v", f, want)
			}
			less := impl.Sum{Way: other, Degree: 6, Coefs: slices.Clone(last)}
			less.Coefs[10]--
			if impl.SumSame(f, less) {
				t.Errorf("SumSame holds for %v and %v", f, less)
			}
		}
		for _, other := range []string{"m", "s"} {
			g, ok := impl.SumChange(f, other)
			checkSum(t, "SumChange to "+other, f, g, ok, impl.Sum{}, false)
		}
		g, ok := impl.SumPlain(f)
		checkSum(t, "SumPlain", f, g, ok, impl.Sum{}, false)
	}
	for _, f := range mixedSums() {
		g, ok := impl.SumChange(f, f.Way)
		checkSum(t, "SumChange to its own way", f, g, ok, f, true)
	}
}

// TestSumChangeLimits takes sums that become just CoefMax, and just more.
func TestSumChangeLimits(t *testing.T) {
	for _, c := range []struct {
		n    int
		want []int
	}{
		{coefMax / 2, []int{coefMax / 2, coefMax}}, {-coefMax / 2, []int{-coefMax / 2, -coefMax}},
		{coefMax/2 + 1, nil}, {-coefMax/2 - 1, nil}, {coefMax, nil}, {-coefMax, nil},
	} {
		f := impl.Sum{Way: "p", Degree: 2, Coefs: []int{0, c.n}}
		want := impl.Sum{}
		if c.want != nil {
			want = impl.Sum{Way: "m", Degree: 2, Coefs: []int{c.n, 2 * c.n}}
		}
		g, ok := impl.SumPlain(f)
		checkSum(t, "SumPlain", f, g, ok, want, c.want != nil)
		g, ok = impl.SumChange(f, "m")
		checkSum(t, "SumChange to m", f, g, ok, want, c.want != nil)
	}
}

func TestPromise36SumSame(t *testing.T) {
	for n, f := range someSums() {
		others := []impl.Sum{f}
		for _, way := range ways() {
			if g, ok := wantChange(f, way); ok {
				others = append(others, g)
			}
		}
		for k, g := range others {
			if !impl.SumSame(f, g) || !impl.SumSame(g, f) {
				t.Errorf("SumSame does not hold for %v and %v", f, g)
			}
			for _, x := range [][]int{{1, 2}, {3}, {-1, 1, 2}} {
				if valueAt(t, f, x) != valueAt(t, g, x) {
					t.Errorf("SumAt of %v and %v at %v are not the same", f, g, x)
				}
			}
			near := impl.Sum{Way: g.Way, Degree: g.Degree, Coefs: slices.Clone(g.Coefs)}
			i := (n + k) % len(near.Coefs)
			near.Coefs[i]--
			if near.Coefs[i] < -coefMax {
				near.Coefs[i] += 2
			}
			if impl.SumSame(f, near) || impl.SumSame(near, f) {
				t.Errorf("SumSame holds for %v and %v", f, near)
			}
		}
	}
}

func TestSumSameOfPairs(t *testing.T) {
	for _, f := range unitSums(1) {
		for _, g := range unitSums(1) {
			want := f.Degree == g.Degree && slices.Equal(plainNumbers(f), plainNumbers(g))
			if same := impl.SumSame(f, g); same != want {
				t.Errorf("SumSame of %v and %v is %v", f, g, same)
			}
		}
	}
}

// TestSumSameOfTwoDegrees: sums of two degrees are never the same, not even if both are noughts, or have as many numbers.
func TestSumSameOfTwoDegrees(t *testing.T) {
	for _, n := range []int{0, 1, coefMax} {
		for _, f := range unitSums(n) {
			for _, g := range unitSums(n) {
				if f.Degree != g.Degree && impl.SumSame(f, g) {
					t.Errorf("SumSame holds for %v and %v", f, g)
				}
			}
		}
	}
}

func TestPromise37SumAt(t *testing.T) {
	points := [][]int{{}, {0}, {1}, {-5}, {1, 2}, {2, -1}, {1, 2, 3}, {1, -2, 3}, {0, 0, 4, 0}, {5, -4, 3, -2}, {5, 5, 5, 5, 5}, {-5, -5, -5, -5, -5}, {1, -1, 2, 0, -3}}
	for _, f := range someSums() {
		for _, x := range points {
			value, want := valueAt(t, f, x), wantAt(t, f, x)
			if value != want {
				t.Errorf("SumAt of %v at %v is %d, not %d", f, x, value, want)
			}
			if back := valueAt(t, f, backwards(x)); back != value {
				t.Errorf("SumAt of %v at %v is %d, backwards %d", f, x, value, back)
			}
			more, ok := impl.SumAt(f, append(slices.Clone(x), 0))
			if ok != (len(x) < 5) || ok && more != value || !ok && more != 0 {
				t.Errorf("SumAt of %v at %v is %d, with 0 behind %d, %v", f, x, value, more, ok)
			}
		}
	}
}

func TestSumAtInvalid(t *testing.T) {
	for _, f := range unitSums(1) {
		for _, x := range noPoints() {
			if value, ok := impl.SumAt(f, x); ok || value != 0 {
				t.Errorf("SumAt of %v at no point %v is %d, %v", f, x[:min(len(x), 10)], value, ok)
			}
		}
	}
	for _, f := range noSums() {
		for _, x := range [][]int{{}, {1, 2, 3}, {6}, make([]int, 6)} {
			if value, ok := impl.SumAt(f, x); ok || value != 0 {
				t.Errorf("SumAt of no sum %v at %v is %d, %v", brief(f), x, value, ok)
			}
		}
	}
}

// TestSumAtGreat has the greatest values there are.
func TestSumAtGreat(t *testing.T) {
	power := 1
	for range 6 {
		power *= 25
	}
	last := make([]int, 11)
	for _, n := range []int{coefMax, -coefMax} {
		last[10] = n
		for way, want := range map[string]int{"e": power, "h": power, "p": power, "m": 0, "s": 0} {
			for _, x := range [][]int{{5, 5, 5, 5, 5}, {-5, -5, -5, -5, -5}} {
				if value := valueAt(t, impl.Sum{Way: way, Degree: 6, Coefs: last}, x); value != n*want {
					t.Errorf("SumAt of %d times the last share in the way %s at %v is %d, not %d", n, way, x, value, n*want)
				}
			}
		}
	}
}

func TestPointWithoutNumbersForSums(t *testing.T) {
	for _, f := range someSums() {
		want := 0
		if f.Degree == 0 {
			want = f.Coefs[0]
		}
		for _, x := range [][]int{nil, {}} {
			if value, ok := impl.SumAt(f, x); !ok || value != want {
				t.Errorf("SumAt of %v at no numbers is %d, %v, not %d", f, value, ok, want)
			}
		}
	}
}

// fewSums holds some sums of each way and degree.
func fewSums() []impl.Sum {
	all := []impl.Sum{}
	for k, f := range mixedSums() {
		if f.Degree <= 2 || k%3 == 0 {
			all = append(all, f)
		}
	}
	return all
}

func checkMake(t *testing.T, f impl.Sum, g impl.Sum) bool {
	t.Helper()
	want, wanted := wantMake(f, g)
	h, ok := impl.SumMake(f, g)
	checkSum(t, "SumMake", []impl.Sum{f, g}, h, ok, want, wanted)
	if x := []int{1, 2, -1}; ok && valueAt(t, h, x) != valueAt(t, f, x)*valueAt(t, g, x) {
		t.Errorf("SumAt of SumMake of %v and %v at %v is not the product of both", f, g, x)
	}
	return ok
}

func TestPromise38SumMake(t *testing.T) {
	told, failed := 0, 0
	for i, f := range fewSums() {
		for k, g := range fewSums() {
			if f.Degree+g.Degree > 6 || (i+k)%4 != 0 {
				continue
			}
			ok, back := checkMake(t, f, g), checkMake(t, g, f)
			if ok != back {
				t.Errorf("SumMake of %v and %v is told %v, exchanged %v", f, g, ok, back)
			}
			if ok {
				told++
			} else {
				failed++
			}
		}
	}
	if told < 100 || failed < 100 {
		t.Errorf("%d products told, %d not", told, failed)
	}
}

// TestSumMakeOfShares multiplies sums of one share each, of all ways and up to the degree 6.
func TestSumMakeOfShares(t *testing.T) {
	for _, f := range unitSums(1) {
		for _, g := range unitSums(1) {
			if d := f.Degree + g.Degree; d <= 6 && (f.Way == g.Way || d <= 4) && !checkMake(t, f, g) {
				t.Errorf("SumMake of %v and %v fails", f, g)
			}
		}
	}
}

func TestSumMakeKnown(t *testing.T) {
	one, two, last := impl.Sum{Way: "m", Degree: 1, Coefs: []int{1}}, impl.Sum{Way: "m", Degree: 2, Coefs: []int{1, 0}}, impl.Sum{Way: "m", Degree: 2, Coefs: []int{0, 1}}
	for _, c := range []struct {
		f, g  impl.Sum
		coefs []int
	}{
		{one, one, []int{1, 2}}, {one, two, []int{1, 1, 0}}, {one, last, []int{0, 1, 3}},
		{two, last, []int{0, 1, 0, 1, 0}}, {last, last, []int{0, 0, 1, 2, 6}}, {two, two, []int{1, 0, 2, 0, 0}},
	} {
		want := impl.Sum{Way: "m", Degree: c.f.Degree + c.g.Degree, Coefs: c.coefs}
		h, ok := impl.SumMake(c.f, c.g)
		checkSum(t, "SumMake", []impl.Sum{c.f, c.g}, h, ok, want, true)
	}
}

// TestSumMakeDegrees: a product is of the degree 6 at most, noughts too.
func TestSumMakeDegrees(t *testing.T) {
	for _, n := range []int{0, 1} {
		for _, f := range unitSums(n) {
			for _, g := range unitSums(n) {
				if f.Degree+g.Degree > 6 {
					h, ok := impl.SumMake(f, g)
					checkSum(t, "SumMake", []impl.Sum{f, g}, h, ok, impl.Sum{}, false)
				}
			}
		}
	}
}

// TestSumMakeNoughts has noughts times the greatest numbers.
func TestSumMakeNoughts(t *testing.T) {
	for _, f := range unitSums(0) {
		for _, g := range unitSums(coefMax) {
			d := f.Degree + g.Degree
			if f.Way != g.Way || d > 6 {
				continue
			}
			want := impl.Sum{Way: "m", Degree: d, Coefs: make([]int, len(knownShares()[d]))}
			h, ok := impl.SumMake(f, g)
			checkSum(t, "SumMake", []impl.Sum{f, g}, h, ok, want, true)
			h, ok = impl.SumMake(g, f)
			checkSum(t, "SumMake", []impl.Sum{g, f}, h, ok, want, true)
		}
	}
}

// TestSumMakeLimits has products that are just CoefMax, and just more, by numbers of the degree 0.
func TestSumMakeLimits(t *testing.T) {
	single := func(way string, n int) impl.Sum { return impl.Sum{Way: way, Degree: 0, Coefs: []int{n}} }
	for _, way := range ways() {
		for _, c := range []struct {
			n, k   int
			wanted bool
		}{
			{1000, 1000, true}, {-1000, 1000, true}, {-1000, -1000, true}, {1000, 1001, false}, {-1000, 1001, false},
			{coefMax, 1, true}, {coefMax, -1, true}, {coefMax, 2, false}, {coefMax, coefMax, false}, {coefMax, -coefMax, false}, {0, coefMax, true},
		} {
			want := impl.Sum{}
			if c.wanted {
				want = single("m", c.n*c.k)
			}
			h, ok := impl.SumMake(single(way, c.n), single("m", c.k))
			checkSum(t, "SumMake", []any{way, c.n, c.k}, h, ok, want, c.wanted)
		}
		for _, d := range []int{0, 3, 6} {
			for _, coefs := range listsOfNumbers(len(knownShares()[d]), 7) {
				for _, n := range []int{1, -1, coefMax, -coefMax} {
					checkMake(t, single(way, n), impl.Sum{Way: way, Degree: d, Coefs: coefs})
				}
			}
		}
	}
}

func TestPromise39SumCount(t *testing.T) {
	for _, f := range someSums() {
		want := len(slices.DeleteFunc(slices.Clone(f.Coefs), func(n int) bool { return n == 0 }))
		n, ok := impl.SumCount(f)
		if !ok || n != want || n > len(knownShares()[f.Degree]) {
			t.Errorf("SumCount of %v is %d, %v, not %d", f, n, ok, want)
		}
		g, _ := impl.SumTimes(f, 2)
		if (n == 0) != impl.SumSame(f, g) {
			t.Errorf("SumCount of %v is %d, SumSame with twice the sum %v", f, n, impl.SumSame(f, g))
		}
	}
}

// TestSumsOfDegreeNought: all ways tell the same by the one share.
func TestSumsOfDegreeNought(t *testing.T) {
	for _, way := range ways() {
		for _, n := range []int{0, 1, -3, coefMax, -coefMax} {
			f := impl.Sum{Way: way, Degree: 0, Coefs: []int{n}}
			for _, other := range ways() {
				want := impl.Sum{Way: other, Degree: 0, Coefs: []int{n}}
				g, ok := impl.SumChange(f, other)
				checkSum(t, "SumChange to "+other, f, g, ok, want, true)
				if !impl.SumSame(f, want) {
					t.Errorf("SumSame does not hold for %v and %v", f, want)
				}
			}
			for _, x := range [][]int{{}, {0}, {3, -4}, {5, 5, 5, 5, 5}} {
				if value := valueAt(t, f, x); value != n {
					t.Errorf("SumAt of %v at %v is %d", f, x, value)
				}
			}
			if count, ok := impl.SumCount(f); !ok || count != min(1, n*n) {
				t.Errorf("SumCount of %v is %d, %v", f, count, ok)
			}
		}
		for _, a := range [][]int{nil, {}} {
			f, ok := impl.SumOf(way, a)
			checkSum(t, "SumOf "+way, a, f, ok, impl.Sum{Way: way, Degree: 0, Coefs: []int{1}}, true)
		}
	}
}

// TestSumsOfNoughts: all ways and points tell nothing.
func TestSumsOfNoughts(t *testing.T) {
	for d, shares := range knownShares() {
		for _, way := range ways() {
			f := impl.Sum{Way: way, Degree: d, Coefs: make([]int, len(shares))}
			for _, other := range ways() {
				want := impl.Sum{Way: other, Degree: d, Coefs: make([]int, len(shares))}
				g, ok := impl.SumChange(f, other)
				checkSum(t, "SumChange to "+other, f, g, ok, want, true)
				if !impl.SumSame(f, want) {
					t.Errorf("SumSame does not hold for %v and %v", f, want)
				}
			}
			if value := valueAt(t, f, []int{5, -4, 3, 5, 5}); value != 0 {
				t.Errorf("SumAt of %v is %d", f, value)
			}
			if n, ok := impl.SumCount(f); !ok || n != 0 {
				t.Errorf("SumCount of %v is %d, %v", f, n, ok)
			}
			g, ok := impl.SumTimes(f, -coefMax)
			checkSum(t, "SumTimes", f, g, ok, f, true)
			g, ok = impl.SumAdd(f, f)
			checkSum(t, "SumAdd", f, g, ok, f, true)
		}
	}
}

// fromSum holds what makes a sum of a sum.
func fromSum() map[string]func(impl.Sum) (impl.Sum, bool) {
	all := map[string]func(impl.Sum) (impl.Sum, bool){
		"SumPlain":       impl.SumPlain,
		"SumTimes by 0":  func(f impl.Sum) (impl.Sum, bool) { return impl.SumTimes(f, 0) },
		"SumTimes by 1":  func(f impl.Sum) (impl.Sum, bool) { return impl.SumTimes(f, 1) },
		"SumAdd itself":  func(f impl.Sum) (impl.Sum, bool) { return impl.SumAdd(f, f) },
		"SumMake itself": func(f impl.Sum) (impl.Sum, bool) { return impl.SumMake(f, f) },
	}
	for _, way := range ways() {
		all["SumChange to "+way] = func(f impl.Sum) (impl.Sum, bool) { return impl.SumChange(f, way) }
	}
	return all
}

func TestNoSums(t *testing.T) {
	good := []impl.Sum{{Way: "m", Degree: 0, Coefs: []int{1}}, {Way: "p", Degree: 3, Coefs: []int{1, 2, 3}}, {Way: "s", Degree: 6, Coefs: make([]int, 11)}}
	for _, f := range noSums() {
		for name, tell := range fromSum() {
			g, ok := tell(f)
			checkSum(t, name, brief(f), g, ok, impl.Sum{}, false)
		}
		if n, ok := impl.SumCount(f); ok || n != 0 {
			t.Errorf("SumCount of no sum %v is %d, %v", brief(f), n, ok)
		}
		if impl.SumSame(f, f) {
			t.Errorf("SumSame holds for no sum %v and itself", brief(f))
		}
		others := append(good, impl.Sum{Way: f.Way, Degree: f.Degree, Coefs: []int{1}})
		if shares := knownShares(); f.Degree >= 0 && f.Degree < len(shares) {
			others = append(others, impl.Sum{Way: f.Way, Degree: f.Degree, Coefs: make([]int, len(shares[f.Degree]))})
		}
		for _, g := range others {
			for _, pair := range [][2]impl.Sum{{f, g}, {g, f}} {
				h, ok := impl.SumAdd(pair[0], pair[1])
				checkSum(t, "SumAdd", brief(f), h, ok, impl.Sum{}, false)
				h, ok = impl.SumMake(pair[0], pair[1])
				checkSum(t, "SumMake", brief(f), h, ok, impl.Sum{}, false)
				if impl.SumSame(pair[0], pair[1]) {
					t.Errorf("SumSame holds for %v and %v, one of which is no sum", brief(f), g)
				}
			}
		}
		for _, k := range outsideNumbers() {
			g, ok := impl.SumTimes(f, k)
			checkSum(t, "SumTimes", brief(f), g, ok, impl.Sum{}, false)
		}
	}
}

// TestSumsMemory: arguments stay as they are, and no result shares memory with them or with a result told again.
func TestSumsMemory(t *testing.T) {
	for _, f := range append(unitSums(6), unitSums(0)...) {
		for name, tell := range fromSum() {
			g := impl.Sum{Way: f.Way, Degree: f.Degree, Coefs: spaced(f.Coefs)}
			first, ok := tell(g)
			unspoilt(t, name, g.Coefs, f.Coefs)
			second, _ := tell(g)
			apart(t, name, g.Coefs, first.Coefs, second.Coefs)
			scribble(first.Coefs)
			third, okt := tell(g)
			checkSum(t, name, f, third, okt, second, ok)
			unspoilt(t, name, g.Coefs, f.Coefs)
		}
		checkReaders(t, f)
	}
	eachShare(func(_ int, a []int) {
		b := spaced(a)
		first, _ := impl.SumOf("s", b)
		second, _ := impl.SumOf("s", b)
		unspoilt(t, "SumOf", b, a)
		apart(t, "SumOf", b, first.Coefs, second.Coefs)
	})
}

// checkReaders fails the test if what makes no sum, or takes two of them, changes its arguments.
func checkReaders(t *testing.T, f impl.Sum) {
	t.Helper()
	g := impl.Sum{Way: f.Way, Degree: f.Degree, Coefs: spaced(f.Coefs)}
	h := impl.Sum{Way: f.Way, Degree: f.Degree, Coefs: spaced(f.Coefs)}
	x := spaced([]int{1, -2, 3})
	impl.SumIn(g)
	impl.SumCount(g)
	impl.SumAt(g, x)
	impl.SumSame(g, h)
	added, _ := impl.SumAdd(g, h)
	made, _ := impl.SumMake(g, h)
	unspoilt(t, "a function of a sum", g.Coefs, f.Coefs)
	unspoilt(t, "a function of two sums", h.Coefs, f.Coefs)
	unspoilt(t, "SumAt", x, []int{1, -2, 3})
	apart(t, "a function of two sums", g.Coefs, h.Coefs, added.Coefs, made.Coefs)
}

// TestSumsAtOnce changes sums at once: what one call finds does not show in another one.
func TestSumsAtOnce(t *testing.T) {
	var calls sync.WaitGroup
	for _, f := range unitSums(6) {
		for _, way := range ways() {
			calls.Add(1)
			go func() {
				defer calls.Done()
				g, ok := impl.SumChange(f, way)
				if ok && !impl.SumSame(f, g) {
					t.Errorf("SumChange of %v to %s is %v", f, way, g)
				}
			}()
		}
	}
	calls.Wait()
}
