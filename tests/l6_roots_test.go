package tests

import (
	"math"
	"math/big"
	"math/bits"
	"slices"
	"sync"
	"testing"

	"loop.example/symmetricsums/impl"
)

const (
	rootLimit  = 1000
	powerLimit = 10000
)

// square is a table with as many rows as columns. Its own numbers, those by which it only stretches some list, stand for roots:
// so what a root polynomial is to become is found without it.
type square [][]*big.Int

func squareOf(size int, entry func(row int, column int) int) square {
	all := square{}
	for row := range size {
		numbers := []*big.Int{}
		for column := range size {
			numbers = append(numbers, big.NewInt(int64(entry(row, column))))
		}
		all = append(all, numbers)
	}
	return all
}

// companion has the roots of a root polynomial as its own numbers.
func companion(e []int) square {
	return squareOf(len(e), func(row int, column int) int {
		switch {
		case row == 0 && column%2 == 0:
			return e[column]
		case row == 0:
			return -e[column]
		case row == column+1:
			return 1
		}
		return 0
	})
}

// times has as own numbers those of a square times a factor, with a number added to each.
func (s square) times(factor int, more int) square {
	all := squareOf(len(s), func(row int, column int) int { return 0 })
	for row := range s {
		for column, number := range s[row] {
			all[row][column].Mul(number, big.NewInt(int64(factor)))
		}
		all[row][row].Add(all[row][row], big.NewInt(int64(more)))
	}
	return all
}

func (s square) product(other square) square {
	all := squareOf(len(s), func(row int, column int) int { return 0 })
	for row := range s {
		for column := range s {
			for k := range s {
				all[row][column].Add(all[row][column], new(big.Int).Mul(s[row][k], other[k][column]))
			}
		}
	}
	return all
}

// value is the product of the own numbers, found by the first row.
func (s square) value() *big.Int {
	if len(s) == 0 {
		return big.NewInt(1)
	}
	total := new(big.Int)
	for column, number := range s[0] {
		if number.Sign() == 0 {
			continue
		}
		less := square{}
		for _, row := range s[1:] {
			less = append(less, slices.Delete(slices.Clone(row), column, column+1))
		}
		product := new(big.Int).Mul(number, less.value())
		if column%2 != 0 {
			product.Neg(product)
		}
		total.Add(total, product)
	}
	return total
}

// within has only the rows and columns that a set of bits tells.
func (s square) within(set uint) square {
	all := square{}
	for row := range s {
		numbers := []*big.Int{}
		for column := range s {
			if set>>column&1 == 1 {
				numbers = append(numbers, s[row][column])
			}
		}
		if set>>row&1 == 1 {
			all = append(all, numbers)
		}
	}
	return all
}

// chosen holds the chosen sums of the own numbers, from that of 1 on.
func (s square) chosen() []int {
	totals := []*big.Int{}
	for range s {
		totals = append(totals, new(big.Int))
	}
	for set := uint(1); set < 1<<len(s); set++ {
		total := totals[bits.OnesCount(set)-1]
		total.Add(total, s.within(set).value())
	}
	return plainInts(totals)
}

// plainInts is for numbers that are known to be ints.
func plainInts(numbers []*big.Int) []int {
	all := []int{}
	for _, number := range numbers {
		if !number.IsInt64() {
			panic(number.String() + " is no int")
		}
		all = append(all, int(number.Int64()))
	}
	return all
}

// wantSums holds what RootPowers and RootFulls are to return for 6: sums of the middles, and first entries, of powers of the companion.
func wantSums(e []int) ([]int, []int) {
	first := companion(e)
	power := first
	powers, fulls := []*big.Int{}, []*big.Int{}
	for range 6 {
		total := new(big.Int)
		for i := range power {
			total.Add(total, power[i][i])
		}
		powers = append(powers, total)
		fulls = append(fulls, power[0][0])
		power = power.product(first)
	}
	return plainInts(powers), plainInts(fulls)
}

// wantFrom is what RootFrom is to return: each number is the value of a square over a factorial.
func wantFrom(p []int) ([]int, bool) {
	e := []int{}
	for k := 1; k <= len(p); k++ {
		s := squareOf(k, func(row int, column int) int {
			switch {
			case column <= row:
				return p[row-column]
			case column == row+1:
				return column
			}
			return 0
		})
		number, rest := new(big.Int).QuoRem(s.value(), big.NewInt(int64(factorial(k))), new(big.Int))
		if rest.Sign() != 0 || !number.IsInt64() || !allWithin([]int{int(number.Int64())}, rootLimit) {
			return nil, false
		}
		e = append(e, int(number.Int64()))
	}
	return e, true
}

func allWithin(numbers []int, limit int) bool {
	return !slices.ContainsFunc(numbers, func(number int) bool { return number < -limit || number > limit })
}

// wantRoots is what is to be returned where a root polynomial is told.
func wantRoots(numbers []int) ([]int, bool) {
	if !allWithin(numbers, rootLimit) {
		return nil, false
	}
	return numbers, true
}

// someRoots holds root polynomials with numbers of all sizes, those of some points among them.
var someRoots = sync.OnceValue(func() [][]int {
	all := [][]int{
		{6, 11, 6}, {3, 2}, {0, -1}, {-2, 1}, {2, 2}, {10, 35, 50, 24}, {15, 85, 225, 274, 120}, {5, 10, 10, 5, 1}, {-5, 10, -10, 5, -1},
	}
	for n := 1; n <= 5; n++ {
		next := drawer(uint64(n))
		for _, e := range lists(n, -1, 1) {
			great := slices.Clone(e)
			for i := range great {
				great[i] *= rootLimit
			}
			all = append(all, e, great)
		}
		for _, limit := range []int{2, 3, 5, 12, 30, 100, 400, rootLimit} {
			for range 8 {
				e := []int{}
				for range n {
					e = append(e, next(limit))
				}
				all = append(all, e)
			}
		}
	}
	return all
})

// sortedPoints holds all points of one number at least that do not fall.
var sortedPoints = sync.OnceValue(func() [][]int {
	all := [][]int{}
	last := [][]int{{}}
	for range 5 {
		longer := [][]int{}
		for _, x := range last {
			for number := -5; number <= 5; number++ {
				if len(x) == 0 || number >= x[len(x)-1] {
					longer = append(longer, append(slices.Clone(x), number))
				}
			}
		}
		all = append(all, longer...)
		last = longer
	}
	return all
})

func checkList(t *testing.T, name string, of any, got []int, ok bool, want []int, wanted bool) {
	t.Helper()
	if ok != wanted || !slices.Equal(got, want) {
		t.Errorf("%s of %v is %v, %v, not %v, %v", name, of, got, ok, want, wanted)
	}
}

// powersOfRoots returns the power sums up to k, which must be told.
func powersOfRoots(t *testing.T, e []int, k int) []int {
	t.Helper()
	p, ok := impl.RootPowers(e, k)
	if !ok || len(p) != k {
		t.Fatalf("RootPowers of %v and %d is %v, %v", e, k, p, ok)
	}
	return p
}

// atRoots returns the value of a root polynomial, which must be told.
func atRoots(t *testing.T, e []int, x int) int {
	t.Helper()
	value, ok := impl.RootAt(e, x)
	if !ok {
		t.Errorf("RootAt of %v at %d fails", e, x)
	}
	return value
}

func TestPromise48RootOf(t *testing.T) {
	kinds := map[int][]terms{}
	for n := 1; n <= 5; n++ {
		for k := 1; k <= n; k++ {
			kinds[n] = append(kinds[n], placesTerms(n, k, false))
		}
	}
	made, beyond := 0, 0
	for _, x := range sortedPoints() {
		numbers := []int{}
		for _, kind := range kinds[len(x)] {
			numbers = append(numbers, kind.at(x))
		}
		want, wanted := wantRoots(numbers)
		mixed := append(slices.Clone(x[len(x)/2:]), x[:len(x)/2]...)
		for _, y := range [][]int{x, backwards(x), mixed} {
			e, ok := impl.RootOf(y)
			checkList(t, "RootOf", y, e, ok, want, wanted)
		}
		if !wanted {
			beyond++
			continue
		}
		made++
		checkRootsAt(t, want, x)
	}
	if made < 3000 || beyond < 100 {
		t.Errorf("%d root polynomials of points, %d beyond the limit", made, beyond)
	}
}

// checkRootsAt: a root polynomial has the numbers of a point as roots, and no others, and its numbers are AtChosen.
func checkRootsAt(t *testing.T, e []int, x []int) {
	t.Helper()
	for number := -9; number <= 9; number++ {
		if value := atRoots(t, e, number); (value == 0) != slices.Contains(x, number) {
			t.Errorf("RootAt of %v at %d is %d, the roots are %v", e, number, value, x)
		}
	}
	for i, number := range e {
		if chosen, ok := impl.AtChosen(i+1, x); !ok || chosen != number {
			t.Errorf("RootOf of %v is %v, AtChosen of %d is %d, %v", x, e, i+1, chosen, ok)
		}
	}
}

func TestPromise49RootPowersOfPoint(t *testing.T) {
	for _, x := range sortedPoints() {
		e, ok := impl.RootOf(x)
		if !ok {
			continue
		}
		for i, number := range powersOfRoots(t, e, 6) {
			if value, ok := impl.AtPower(i+1, x); !ok || value != number || value != powerSum(i+1, x) {
				t.Errorf("RootPowers of %v and 6 has %d for %d, AtPower of %v is %d, %v", e, number, i+1, x, value, ok)
			}
		}
	}
}

func TestPromise50RootFullsOfPoint(t *testing.T) {
	for n := 1; n <= 5; n++ {
		kinds := []terms{}
		for k := 1; k <= 6; k++ {
			kinds = append(kinds, placesTerms(n, k, true))
		}
		for _, x := range sortedPoints() {
			e, told := impl.RootOf(x)
			if len(x) != n || !told {
				continue
			}
			numbers, ok := impl.RootFulls(e, 6)
			if !ok || len(numbers) != 6 {
				t.Fatalf("RootFulls of %v and 6 is %v, %v", e, numbers, ok)
			}
			for i, number := range numbers {
				if value, ok := impl.AtFull(i+1, x); !ok || value != number || value != kinds[i].at(x) {
					t.Errorf("RootFulls of %v and 6 has %d for %d, AtFull of %v is %d, %v", e, number, i+1, x, value, ok)
				}
			}
		}
	}
}

func TestPromise51RootPowers(t *testing.T) {
	near, beyond := 0, 0
	for _, e := range someRoots() {
		want, _ := wantSums(e)
		for k := 1; k <= 6; k++ {
			p, ok := impl.RootPowers(e, k)
			checkList(t, "RootPowers", []any{e, k}, p, ok, want[:k], true)
		}
		back, ok := impl.RootFrom(want[:len(e)])
		if allWithin(want[:len(e)], powerLimit) {
			near++
			checkList(t, "RootFrom", want[:len(e)], back, ok, e, true)
		} else {
			beyond++
			checkList(t, "RootFrom", want[:len(e)], back, ok, nil, false)
		}
	}
	if near < 400 || beyond < 400 {
		t.Errorf("power sums of %d root polynomials are told back, of %d beyond the limit", near, beyond)
	}
}

func TestPromise52RootFulls(t *testing.T) {
	for _, e := range someRoots() {
		_, want := wantSums(e)
		for k := 1; k <= 6; k++ {
			fulls, ok := impl.RootFulls(e, k)
			checkList(t, "RootFulls", []any{e, k}, fulls, ok, want[:k], true)
			if !ok || len(fulls) != k {
				continue
			}
			left := append([]int{1}, fulls...)
			total := 0
			for i, power := range powersOfRoots(t, e, k) {
				total += power * left[k-1-i]
			}
			if total != k*fulls[k-1] {
				t.Errorf("RootFulls of %v and %d is %v, by power sums the last one times %d is %d", e, k, fulls, k, total)
			}
		}
	}
}

// checkFrom compares RootFrom with what is wanted for a list of power sums, and tells whether there is a root polynomial.
func checkFrom(t *testing.T, p []int) bool {
	t.Helper()
	want, wanted := wantFrom(p)
	e, ok := impl.RootFrom(p)
	checkList(t, "RootFrom", p, e, ok, want, wanted)
	if ok && !slices.Equal(powersOfRoots(t, e, len(p)), p) {
		t.Errorf("RootFrom of %v is %v, RootPowers of it differ", p, e)
	}
	return ok
}

func TestPromise53RootFrom(t *testing.T) {
	made, others := 0, 0
	for n, limit := range map[int]int{1: 1100, 2: 60, 3: 7, 4: 3, 5: 2} {
		for _, p := range lists(n, -limit, limit) {
			if checkFrom(t, p) {
				made++
			} else {
				others++
			}
		}
	}
	if made < 1000 || others < 1000 {
		t.Errorf("%d lists of power sums with a root polynomial, %d without one", made, others)
	}
}

// TestRootFromNotWhole changes one power sum of a root polynomial: just by what is no multiple of its number, one number is not whole.
func TestRootFromNotWhole(t *testing.T) {
	for _, e := range someRoots() {
		p := powersOfRoots(t, e, len(e))
		if !allWithin(p, powerLimit-6) {
			continue
		}
		for i := range p {
			for more := -6; more <= 6; more++ {
				other := slices.Clone(p)
				other[i] += more
				if made := checkFrom(t, other); made && more%(i+1) != 0 {
					t.Errorf("RootFrom of %v is told, as that of %v", other, p)
				}
			}
		}
	}
}

// TestRootFromLimits has power sums at 10000 and -10000, and just beyond, that are those of root polynomials.
func TestRootFromLimits(t *testing.T) {
	for _, c := range []struct{ e, p []int }{
		{[]int{100, 0}, []int{100, 10000}}, {[]int{-100, 0}, []int{-100, 10000}}, {[]int{100, 0, 0}, nil}, {[]int{99, -100}, []int{99, 10001}},
		{[]int{-4, -984, 624}, []int{-4, 1984, -10000}}, {[]int{10, -297, 30}, []int{10, 694, 10000}},
		{[]int{10, 365, -17}, []int{10, -630, -10001}}, {[]int{-10, 440, -733}, []int{-10, -780, 10001}},
		{[]int{11, 273, -774, -918}, []int{11, -425, -10000, 1183}}, {[]int{-8, -4, 488, -116}, []int{-8, 72, 856, -10000}},
		{[]int{0, -70, -845, -50}, []int{0, 140, -2535, 10000}}, {[]int{-7, -9, 514, -16}, []int{-7, 67, 1010, -10001}},
		{[]int{1, 72, 144, 164}, []int{1, -143, 217, 10001}}, {[]int{11, 81, -2, -382, 31}, []int{11, -41, -1348, -10001, 3616}},
		{[]int{0, -4, -599, 883, 396}, []int{0, 8, -1797, -3500, -10000}}, {[]int{0, -60, 32, -86, 80}, []int{0, 120, 96, 7544, 10000}},
		{[]int{-6, -32, 193, -82, -21}, []int{-6, 100, -213, 3648, -10001}}, {[]int{-4, 23, -400, 12, 1}, []int{-4, -30, -988, 6194, 10001}},
	} {
		p := powersOfRoots(t, c.e, len(c.e))
		if c.p != nil && !slices.Equal(p, c.p) {
			t.Errorf("RootPowers of %v is %v", c.e, p)
		}
		e, ok := impl.RootFrom(p)
		if allWithin(p, powerLimit) {
			checkList(t, "RootFrom", p, e, ok, c.e, true)
		} else {
			checkList(t, "RootFrom", p, e, ok, nil, false)
		}
	}
	for n := 1; n <= 5; n++ {
		for _, p := range lists(n, -1, 1) {
			for i := range p {
				p[i] *= powerLimit
			}
			checkFrom(t, p)
		}
	}
}

func TestPromise54RootShift(t *testing.T) {
	made, beyond := 0, 0
	for _, e := range someRoots() {
		for shift := -9; shift <= 9; shift++ {
			want, wanted := wantRoots(companion(e).times(1, shift).chosen())
			f, ok := impl.RootShift(e, shift)
			checkList(t, "RootShift", []any{e, shift}, f, ok, want, wanted)
			if !ok || len(f) != len(e) {
				beyond++
				continue
			}
			made++
			back, ok := impl.RootShift(f, -shift)
			checkList(t, "RootShift back", []any{f, -shift}, back, ok, e, true)
			if f[0] != e[0]+len(e)*shift {
				t.Errorf("RootShift of %v and %d is %v, the first number is not %d greater", e, shift, f, len(e)*shift)
			}
		}
	}
	if made < 3000 || beyond < 3000 {
		t.Errorf("%d root polynomials shifted, %d beyond the limit", made, beyond)
	}
}

func TestPromise55RootShiftAt(t *testing.T) {
	told, others := 0, 0
	for _, e := range someRoots() {
		for shift := -9; shift <= 9; shift++ {
			f, made := impl.RootShift(e, shift)
			if !made {
				continue
			}
			for x := -9; x <= 9; x++ {
				value, ok := impl.RootAt(f, x+shift)
				if x+shift < -9 || x+shift > 9 {
					others++
					checkNumber(t, "RootAt", []any{f, x + shift}, value, ok, 0, false)
					continue
				}
				told++
				checkNumber(t, "RootAt", []any{f, x + shift}, value, ok, atRoots(t, e, x), true)
			}
		}
	}
	if told < 10000 || others < 10000 {
		t.Errorf("%d values of shifted root polynomials, %d beyond 9", told, others)
	}
}

func TestPromise56RootTimes(t *testing.T) {
	made, beyond := 0, 0
	for _, e := range someRoots() {
		for factor := -9; factor <= 9; factor++ {
			want, wanted := wantRoots(companion(e).times(factor, 0).chosen())
			f, ok := impl.RootTimes(e, factor)
			checkList(t, "RootTimes", []any{e, factor}, f, ok, want, wanted)
			if !ok {
				beyond++
				continue
			}
			made++
			p, q := powersOfRoots(t, e, 3), powersOfRoots(t, f, 3)
			if q[0] != p[0]*factor || q[1] != p[1]*factor*factor || q[2] != p[2]*factor*factor*factor {
				t.Errorf("RootTimes of %v and %d is %v, with power sums %v for %v", e, factor, f, q, p)
			}
		}
	}
	if made < 3000 || beyond < 3000 {
		t.Errorf("%d root polynomials made, %d beyond the limit", made, beyond)
	}
}

func TestPromise57RootSquares(t *testing.T) {
	made, beyond := 0, 0
	for _, e := range someRoots() {
		want, wanted := wantRoots(companion(e).product(companion(e)).chosen())
		f, ok := impl.RootSquares(e)
		checkList(t, "RootSquares", e, f, ok, want, wanted)
		if !ok {
			beyond++
			continue
		}
		made++
		p, q := powersOfRoots(t, e, 6), powersOfRoots(t, f, 3)
		if q[0] != p[1] || q[1] != p[3] || q[2] != p[5] {
			t.Errorf("RootSquares of %v is %v, with power sums %v for %v", e, f, q, p)
		}
	}
	if made < 400 || beyond < 400 {
		t.Errorf("%d root polynomials of squares, %d beyond the limit", made, beyond)
	}
}

// isOver reports whether a root polynomial has 1 over each root of another one as roots: if x is not 0, its value at x
// is that of the other one at 1 over x, times x as often as there are roots, over the value at 0.
func isOver(f []int, e []int) bool {
	for x := int64(1); x <= 6; x++ {
		value, other := big.NewRat(1, 1), big.NewRat(1, 1)
		for i := range e {
			sign := int64(1 - 2*((i+1)%2))
			value.Mul(value, big.NewRat(x, 1)).Add(value, big.NewRat(sign*int64(f[i]), 1))
			other.Mul(other, big.NewRat(1, x)).Add(other, big.NewRat(sign*int64(e[i]), 1))
		}
		for range e {
			other.Mul(other, big.NewRat(x, 1))
		}
		atNought := e[len(e)-1] * (1 - 2*(len(e)%2))
		if value.Mul(value, big.NewRat(int64(atNought), 1)).Cmp(other) != 0 {
			return false
		}
	}
	return true
}

func TestPromise58RootBack(t *testing.T) {
	for _, whole := range someRoots() {
		for _, last := range []int{1, -1, 0, 2, -2, 3, -3, 4, 10, rootLimit, -rootLimit} {
			e := append(slices.Clone(whole[:len(whole)-1]), last)
			f, ok := impl.RootBack(e)
			if last != 1 && last != -1 {
				checkList(t, "RootBack", e, f, ok, nil, false)
				continue
			}
			if !ok || len(f) != len(e) || !isOver(f, e) {
				t.Errorf("RootBack of %v is %v, %v", e, f, ok)
			}
			back, ok := impl.RootBack(f)
			checkList(t, "RootBack back", f, back, ok, e, true)
			if value, other := atRoots(t, e, 1), atRoots(t, f, 1); value != other && value != -other {
				t.Errorf("RootAt of %v at 1 is %d, of %v %d", e, value, f, other)
			}
		}
	}
}

func TestPromise59RootAt(t *testing.T) {
	for _, e := range someRoots() {
		for x := -9; x <= 9; x++ {
			value, ok := impl.RootAt(e, x)
			want := plainInts([]*big.Int{companion(e).times(-1, x).value()})[0]
			checkNumber(t, "RootAt", []any{e, x}, value, ok, want, true)
		}
		last := e[len(e)-1]
		if value := atRoots(t, e, 0); value != last*(1-2*(len(e)%2)) {
			t.Errorf("RootAt of %v at 0 is %d", e, value)
		}
	}
}

// TestRootsLimits has results with one number at 1000 or -1000, and just beyond: what is beyond is no root polynomial.
func TestRootsLimits(t *testing.T) {
	for name, c := range map[string]struct {
		ask  func(e []int, t int) ([]int, bool)
		of   [][]int // behind each root polynomial, the number t
		want [][]int
	}{
		"RootOf": {func(x []int, _ int) ([]int, bool) { return impl.RootOf(x) }, [][]int{
			{-5, -5, -5, -4, 2, 0}, {-5, 4, -5, 2, -5, 0}, {5, 5, 5, 5, 0}, {5, 5, 5, 5, 1, 0},
		}, [][]int{{-17, 97, -155, -350, 1000}, {-9, -7, 205, -150, -1000}, {20, 150, 500, 625}, {21, 170, 650, 1125, 625}}},
		"RootFrom": {func(p []int, _ int) ([]int, bool) { return impl.RootFrom(p) }, [][]int{
			{1000, 0}, {-1000, 0}, {1001, 0}, {-1001, 0}, {0, 2000, 0}, {0, -2000, 0}, {0, 2002, 0}, {0, -2002, 0}, {0, 0, 3000, 0}, {0, 0, -3003, 0},
			{0, 0, 0, 4000, 0}, {0, 0, 0, 4004, 0}, {0, 0, 0, 0, -5000, 0}, {0, 0, 0, 0, 5005, 0},
		}, [][]int{
			{1000}, {-1000}, {1001}, {-1001}, {0, -1000}, {0, 1000}, {0, -1001}, {0, 1001}, {0, 0, 1000}, {0, 0, -1001},
			{0, 0, 0, -1000}, {0, 0, 0, -1001}, {0, 0, 0, 0, -1000}, {0, 0, 0, 0, 1001},
		}},
		"RootShift": {impl.RootShift, [][]int{
			{-1000, -1}, {-998, -2}, {999, 1}, {999, 2}, {-999, -155, -1}, {998, -732, 1}, {-513, 529, 3}, {-10, -991, 9}, {217, 562, 2}, {12, 812, 9},
			{5, 78, 25, -9}, {-6, -22, 17, -9}, {3, 3, 1, 9}, {3, 3, 2, 9}, {-8, 2, -7, -3, 9}, {43, 88, 100, -35, 2}, {10, -3, 2, -10, -9},
			{10, -3, 3, -2, -9}, {-12, -4, -2, 10, 6, 3}, {3, -8, 2, -5, 10, -5}, {-10, 307, -869, 510, -872, 2}, {1, -12, 83, 14, -4, -5},
		}, [][]int{
			{-1001}, {-1000}, {1000}, {1001}, {-1001, 845}, {1000, 267}, {-507, -1001}, {8, -1000}, {221, 1000}, {30, 1001},
			{-22, 231, -1001}, {-33, 329, -1000}, {30, 300, 1000}, {30, 300, 1001}, {28, 272, 1001, 825}, {51, 370, 1000, 877}, {-26, 213, -430, -1000},
			{-26, 213, -429, -1001}, {3, -58, -416, -1001, -819}, {-22, 182, -678, 1000, -165}, {0, 267, 813, 478, -1000}, {-24, 218, -837, 909, 1001},
		}},
		"RootTimes": {impl.RootTimes, [][]int{
			{500, 2}, {125, -8}, {-143, 7}, {-143, -7}, {0, 250, 2}, {0, -250, -2}, {0, 0, 125, -2}, {0, 0, -125, -2}, {0, 0, 126, 2}, {1, 1000, 0, 1},
			{1000, -1000, 1000, -1000, 1000, -1}, {1000, 1000, 1000, 1000, 1000, 0}, {0, 0, 0, 0, 31, 2}, {0, 0, 0, 0, 32, -2}, {111, 9}, {112, -9},
		}, [][]int{
			{1000}, {-1000}, {-1001}, {1001}, {0, 1000}, {0, -1000}, {0, 0, -1000}, {0, 0, 1000}, {0, 0, 1008}, {1, 1000, 0},
			{-1000, -1000, -1000, -1000, -1000}, {0, 0, 0, 0, 0}, {0, 0, 0, 0, 992}, {0, 0, 0, 0, -1024}, {999}, {-1008},
		}},
		"RootSquares": {func(e []int, _ int) ([]int, bool) { return impl.RootSquares(e) }, [][]int{
			{31, 0}, {-32, 0}, {32, 12, 0}, {-31, -20, 0}, {12, 20, -25, 0}, {17, -7, -28, 0}, {-25, 10, -22, 0}, {-27, -5, -19, 0},
			{1, -19, 5, -27, 0}, {9, 28, -8, 19, 0}, {-1, 9, -26, -18, 0}, {5, 16, 19, -20, 0}, {-32, 12, 12, -5, -10, 0}, {5, 2, 19, -5, 27, 0},
			{0, 12, -20, 0, -25, 0}, {-4, 14, 6, -26, -27, 0}, {-13, -28, -22, 11, 20, 0},
		}, [][]int{
			{961}, {1024}, {1000, 144}, {1001, 400}, {104, 1000, 625}, {303, 1001, 784}, {605, -1000, 484}, {739, -1001, 361},
			{39, 297, -1001, 729}, {25, 966, -1000, 361}, {-17, -7, 1000, 324}, {-7, 26, 1001, 400}, {1000, 902, 904, 265, 100}, {21, -196, 651, -1001, 729},
			{-24, 144, 400, -1000, 625}, {-12, 192, 980, 1000, 729}, {225, 234, 580, 1001, 400},
		}},
	} {
		for i, of := range c.of {
			got, ok := c.ask(of[:len(of)-1], of[len(of)-1])
			want, wanted := wantRoots(c.want[i])
			checkList(t, name, of, got, ok, want, wanted)
		}
	}
}

// ofRoots is what takes a root polynomial and a number from low to high. A value is told as a list of one number, if it is not 0.
type ofRoots struct {
	ask  func(e []int, number int) ([]int, bool)
	low  int
	high int
}

func allOfRoots() map[string]ofRoots {
	return map[string]ofRoots{
		"RootPowers":  {impl.RootPowers, 1, 6},
		"RootFulls":   {impl.RootFulls, 1, 6},
		"RootShift":   {impl.RootShift, -9, 9},
		"RootTimes":   {impl.RootTimes, -9, 9},
		"RootSquares": {func(e []int, _ int) ([]int, bool) { return impl.RootSquares(e) }, math.MinInt, math.MaxInt},
		"RootBack":    {func(e []int, _ int) ([]int, bool) { return impl.RootBack(e) }, math.MinInt, math.MaxInt},
		"RootAt": {func(e []int, x int) ([]int, bool) {
			value, ok := impl.RootAt(e, x)
			if value == 0 {
				return nil, ok
			}
			return []int{value}, ok
		}, -9, 9},
	}
}

// noRootLists holds lists that have too few or too many numbers, or one beyond a limit; they end with 1 if that number is not at the end.
func noRootLists(limit int) [][]int {
	all := [][]int{nil, {}, make([]int, 6), ones(6), {1, 1, 1, 1, 1, 0}, {1, 0, 0, 0, 0, 0, 1}, make([]int, 100000), ones(100000)}
	bad := []int{
		limit + 1, -limit - 1, limit + 2, 10 * limit, -10 * limit, 1 << 16, 1<<16 + 1, math.MaxInt32, math.MinInt32, 1 << 32, 1<<32 + 1, -1 << 32,
		math.MaxInt, math.MinInt, math.MaxInt - 1, math.MinInt + 1, 1 << 62, 1<<62 + 1,
	}
	for n := 1; n <= 5; n++ {
		for i := range n {
			for _, number := range bad {
				for _, e := range [][]int{ones(n), append(make([]int, n-1), 1)} {
					e[i] = number
					all = append(all, e)
				}
			}
		}
	}
	return all
}

func TestNoRootPolynomials(t *testing.T) {
	for name, of := range allOfRoots() {
		for _, e := range noRootLists(rootLimit) {
			for _, number := range []int{-9, -1, 0, 1, 2, 6, 9, 7, 10, math.MaxInt, math.MinInt} {
				got, ok := of.ask(e, number)
				checkList(t, name, []any{e[:min(len(e), 10)], number}, got, ok, nil, false)
			}
		}
	}
}

// TestRootsAtLimits: numbers at 1000 and -1000 make a root polynomial at each place.
func TestRootsAtLimits(t *testing.T) {
	for n := 1; n <= 5; n++ {
		for i := range n {
			for _, number := range []int{rootLimit, -rootLimit} {
				e := make([]int, n)
				e[i] = number
				for name, of := range allOfRoots() {
					if got, ok := of.ask(e, 1); !ok && slices.Contains([]string{"RootPowers", "RootFulls", "RootTimes", "RootAt"}, name) {
						t.Errorf("%s of %v and 1 is %v, %v", name, e, got, ok)
					}
				}
				shifted, ok := impl.RootShift(e, 0)
				checkList(t, "RootShift", []any{e, 0}, shifted, ok, e, true)
			}
		}
	}
}

func TestRootsOfOtherNumbers(t *testing.T) {
	for name, of := range allOfRoots() {
		if of.low == math.MinInt {
			continue
		}
		for _, number := range []int{
			of.low - 1, of.low - 2, of.high + 1, of.high + 2, -100, 100, 256, 257, 1 << 16, math.MaxInt32, math.MinInt32, 1 << 32, 1<<32 + 1, -1 << 32,
			math.MaxInt, math.MinInt, math.MaxInt - 1, math.MinInt + 1, 1 << 62, 1<<62 + 1, -1 << 62,
		} {
			for _, e := range [][]int{{0}, {1}, {-1}, {6, 11, 6}, {0, 0, 0, 0, 0}, {1, -1, 1, -1, 1}, {rootLimit, rootLimit}} {
				got, ok := of.ask(e, number)
				checkList(t, name, []any{e, number}, got, ok, nil, false)
			}
		}
		for _, number := range []int{of.low, of.low + 1, of.high - 1, of.high} {
			if got, ok := of.ask([]int{1}, number); !ok {
				t.Errorf("%s of 1 and %d is %v, %v", name, number, got, ok)
			}
		}
	}
}

func TestRootOfNoPoints(t *testing.T) {
	for _, x := range append(noPoints(), nil, []int{}) {
		e, ok := impl.RootOf(x)
		checkList(t, "RootOf", x[:min(len(x), 10)], e, ok, nil, false)
	}
}

func TestRootFromOthers(t *testing.T) {
	for _, p := range noRootLists(powerLimit) {
		e, ok := impl.RootFrom(p)
		checkList(t, "RootFrom", p[:min(len(p), 10)], e, ok, nil, false)
	}
}

// TestOneRoot has all root polynomials of one root, and what is known of this.
func TestOneRoot(t *testing.T) {
	for root := -rootLimit; root <= rootLimit; root++ {
		e := []int{root}
		powers := []int{}
		for k := 1; k <= 6; k++ {
			powers = append(powers, powerSum(k, e))
			p, ok := impl.RootPowers(e, k)
			checkList(t, "RootPowers", []any{e, k}, p, ok, powers, true)
			h, ok := impl.RootFulls(e, k)
			checkList(t, "RootFulls", []any{e, k}, h, ok, powers, true)
		}
		for number := -9; number <= 9; number++ {
			want, wanted := wantRoots([]int{root + number})
			f, ok := impl.RootShift(e, number)
			checkList(t, "RootShift", []any{e, number}, f, ok, want, wanted)
			want, wanted = wantRoots([]int{root * number})
			f, ok = impl.RootTimes(e, number)
			checkList(t, "RootTimes", []any{e, number}, f, ok, want, wanted)
			checkNumber(t, "RootAt", []any{e, number}, atRoots(t, e, number), true, number-root, true)
		}
		want, wanted := wantRoots([]int{root * root})
		f, ok := impl.RootSquares(e)
		checkList(t, "RootSquares", e, f, ok, want, wanted)
		f, ok = impl.RootFrom(e)
		checkList(t, "RootFrom", e, f, ok, e, true)
		f, ok = impl.RootBack(e)
		if root == 1 || root == -1 {
			checkList(t, "RootBack", e, f, ok, e, true)
		} else {
			checkList(t, "RootBack", e, f, ok, nil, false)
		}
		f, ok = impl.RootOf(e)
		if root >= -5 && root <= 5 {
			checkList(t, "RootOf", e, f, ok, e, true)
		} else {
			checkList(t, "RootOf", e, f, ok, nil, false)
		}
	}
}

// sameRoots holds the numbers of the polynomial of a root that is there n times.
func sameRoots(n int, root int) []int {
	return squareOf(n, func(row int, column int) int {
		if row == column {
			return root
		}
		return 0
	}).chosen()
}

// TestRootsAllTheSame has roots that are there n times; 0 is one of them.
func TestRootsAllTheSame(t *testing.T) {
	for n := 1; n <= 5; n++ {
		for root := -20; root <= 20; root++ {
			e, told := wantRoots(sameRoots(n, root))
			if root >= -5 && root <= 5 {
				f, ok := impl.RootOf(slices.Repeat([]int{root}, n))
				checkList(t, "RootOf", []any{root, n}, f, ok, e, told)
			}
			if !told {
				continue
			}
			powers, fulls := []int{}, []int{}
			power, ways := 1, 1
			for k := 1; k <= 6; k++ {
				power *= root
				ways = ways * (n + k - 1) / k
				powers = append(powers, n*power)
				fulls = append(fulls, ways*power)
			}
			p, ok := impl.RootPowers(e, 6)
			checkList(t, "RootPowers", e, p, ok, powers, true)
			h, ok := impl.RootFulls(e, 6)
			checkList(t, "RootFulls", e, h, ok, fulls, true)
			if allWithin(powers[:n], powerLimit) {
				f, ok := impl.RootFrom(powers[:n])
				checkList(t, "RootFrom", powers[:n], f, ok, e, true)
			}
			checkSameChanged(t, e, root)
		}
	}
}

// checkSameChanged: what is made of a root that is there n times is there as often.
func checkSameChanged(t *testing.T, e []int, root int) {
	t.Helper()
	n := len(e)
	for number := -9; number <= 9; number++ {
		want, wanted := wantRoots(sameRoots(n, root+number))
		f, ok := impl.RootShift(e, number)
		checkList(t, "RootShift", []any{e, number}, f, ok, want, wanted)
		want, wanted = wantRoots(sameRoots(n, root*number))
		f, ok = impl.RootTimes(e, number)
		checkList(t, "RootTimes", []any{e, number}, f, ok, want, wanted)
		value := 1
		for range n {
			value *= number - root
		}
		checkNumber(t, "RootAt", []any{e, number}, atRoots(t, e, number), true, value, true)
	}
	want, wanted := wantRoots(sameRoots(n, root*root))
	f, ok := impl.RootSquares(e)
	checkList(t, "RootSquares", e, f, ok, want, wanted)
	f, ok = impl.RootBack(e)
	if root == 1 || root == -1 {
		checkList(t, "RootBack", e, f, ok, e, true)
	} else {
		checkList(t, "RootBack", e, f, ok, nil, false)
	}
}

// TestRootsKnown holds results that are written out, of roots that are not whole among them.
func TestRootsKnown(t *testing.T) {
	for _, c := range []struct {
		name   string
		e      []int
		number int
		want   []int
	}{
		{"RootPowers", []int{1, -1}, 6, []int{1, 3, 4, 7, 11, 18}}, {"RootFulls", []int{1, -1}, 6, []int{1, 2, 3, 5, 8, 13}},
		{"RootPowers", []int{0, 1}, 6, []int{0, -2, 0, 2, 0, -2}}, {"RootFulls", []int{0, 1}, 6, []int{0, -1, 0, 1, 0, -1}},
		{"RootPowers", []int{0, 0, 1}, 6, []int{0, 0, 3, 0, 0, 3}}, {"RootPowers", []int{0, 0, 0, 0, 1}, 6, []int{0, 0, 0, 0, 5, 0}},
		{"RootPowers", []int{0, -1, -1}, 6, []int{0, 2, -3, 2, -5, 5}}, {"RootPowers", []int{6, 11, 6}, 3, []int{6, 14, 36}},
		{"RootPowers", []int{6, 11, 6}, 1, []int{6}}, {"RootFulls", []int{6, 11, 6}, 2, []int{6, 25}}, {"RootFulls", []int{6, 11, 6}, 1, []int{6}},
		{"RootShift", []int{6, 11, 6}, 1, []int{9, 26, 24}}, {"RootShift", []int{0, 1}, 1, []int{2, 2}}, {"RootShift", []int{1, -1}, -1, []int{-1, -1}},
		{"RootTimes", []int{6, 11, 6}, 2, []int{12, 44, 48}}, {"RootTimes", []int{6, 11, 6}, -1, []int{-6, 11, -6}}, {"RootTimes", []int{6, 11, 6}, 0, []int{0, 0, 0}},
		{"RootSquares", []int{6, 11, 6}, 0, []int{14, 49, 36}}, {"RootSquares", []int{0, 1}, 0, []int{-2, 1}}, {"RootSquares", []int{1, -1}, 0, []int{3, 1}},
		{"RootSquares", []int{0, 0, 1}, 0, []int{0, 0, 1}}, {"RootSquares", []int{0, 2}, 0, []int{-4, 4}},
		{"RootBack", []int{1, -1}, 0, []int{-1, -1}}, {"RootBack", []int{5, 1}, 0, []int{5, 1}}, {"RootBack", []int{2, 3, 1}, 0, []int{3, 2, 1}},
		{"RootBack", []int{2, 3, -1}, 0, []int{-3, -2, -1}}, {"RootBack", []int{1000, 7, -3, 1}, 0, []int{-3, 7, 1000, 1}},
		{"RootBack", []int{1000, -1000, 5, 4, -1}, 0, []int{-4, -5, 1000, -1000, -1}},
		{"RootAt", []int{6, 11, 6}, 4, []int{6}}, {"RootAt", []int{6, 11, 6}, 0, []int{-6}}, {"RootAt", []int{1, -1}, 0, []int{-1}},
		{"RootAt", []int{0, 0, 0, 0, 0}, 9, []int{59049}}, {"RootAt", []int{0, 0, 0, 0, 0}, -9, []int{-59049}},
		{"RootAt", []int{1000, 1000, 1000, 1000, 1000}, -9, []int{-59049 - 1000*(6561+729+81+9+1)}},
	} {
		got, ok := allOfRoots()[c.name].ask(c.e, c.number)
		checkList(t, c.name, []any{c.e, c.number}, got, ok, c.want, true)
	}
}

// TestRootsMemory: arguments stay as they are, and no result shares memory with them or with a result told again.
func TestRootsMemory(t *testing.T) {
	all := allOfRoots()
	all["RootOf"] = ofRoots{func(x []int, _ int) ([]int, bool) { return impl.RootOf(x) }, 0, 0}
	all["RootFrom"] = ofRoots{func(p []int, _ int) ([]int, bool) { return impl.RootFrom(p) }, 0, 0}
	for name, of := range all {
		for _, e := range [][]int{{1}, {1, 1}, {1, 1, 1}, {1, 1, 1, 1}, {1, 1, 1, 1, 1}, {-1, 1, -1, 1, -1}, {5, 5, 5, 5, 5}} {
			a := spaced(e)
			for _, number := range []int{0, 1, 2, 6} {
				first, ok := of.ask(a, number)
				second, again := of.ask(a, number)
				unspoilt(t, name, a, e)
				apart(t, name, a, first, second)
				scribble(first)
				third, last := of.ask(a, number)
				if ok != again || ok != last || !slices.Equal(second, third) {
					t.Errorf("%s of %v and %d is %v, %v, and then %v, %v", name, e, number, second, again, third, last)
				}
				unspoilt(t, name, a, e)
			}
		}
	}
}
