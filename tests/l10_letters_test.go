package tests

import (
	"math"
	"slices"
	"sync"
	"testing"

	"loop.example/symmetricsums/impl"
)

// letterPowers holds all powers of three letters that a term may have, in order.
var letterPowers = sync.OnceValue(func() [][]int {
	all := [][]int{}
	for a := 6; a >= 0; a-- {
		for b := 6 - a; b >= 0; b-- {
			for c := 6 - a - b; c >= 0; c-- {
				all = append(all, []int{a, b, c})
			}
		}
	}
	return all
})

// keyOf is the key of powers of three letters among terms.
func keyOf(powers []int) [5]int {
	return [5]int{powers[0], powers[1], powers[2]}
}

// termsOf holds the terms of a polynomial by their powers.
func termsOf(p [][]int) terms {
	all := terms{}
	for _, term := range p {
		all[keyOf(term[1:])] += term[0]
	}
	return all
}

// plus holds the terms of both, with what cancels left out.
func (s terms) plus(other terms) terms {
	all := terms{}
	for _, each := range []terms{s, other} {
		for powers, number := range each {
			all[powers] += number
			if all[powers] == 0 {
				delete(all, powers)
			}
		}
	}
	return all
}

// numbersTimes holds the terms with all numbers times k.
func (s terms) numbersTimes(k int) terms {
	all := terms{}
	for powers, number := range s {
		all[powers] = number * k
	}
	return all
}

// inOrderOf puts, in each term, the power of the letter that an order (of 1, 2 and 3) tells to each place.
func (s terms) inOrderOf(order []int) terms {
	all := terms{}
	for powers, number := range s {
		all[[5]int{powers[order[0]-1], powers[order[1]-1], powers[order[2]-1]}] = number
	}
	return all
}

// told is the polynomial that has these terms, if it is one.
func (s terms) told() ([][]int, bool) {
	p := [][]int{}
	for _, powers := range letterPowers() {
		if number := s[keyOf(powers)]; number != 0 {
			p = append(p, append([]int{number}, powers...))
		}
	}
	return p, wantLettersIn(p)
}

// same reports whether terms are the same as others.
func (s terms) same(other terms) bool {
	first, _ := s.told()
	second, _ := other.told()
	return sameLists(first, second)
}

// symmetric reports whether terms are the same in all orders of the letters.
func (s terms) symmetric() bool {
	return !slices.ContainsFunc(orders(3), func(order []int) bool { return !s.same(s.inOrderOf(order)) })
}

// wantLettersIn looks each term up among all powers: the places must grow.
func wantLettersIn(p [][]int) bool {
	last := -1
	for _, term := range p {
		if len(term) != 4 || term[0] == 0 || term[0] < -1000 || term[0] > 1000 {
			return false
		}
		place := slices.IndexFunc(letterPowers(), func(powers []int) bool { return slices.Equal(powers, term[1:]) })
		if place <= last {
			return false
		}
		last = place
	}
	return len(p) <= 28
}

// someTerms takes n different powers, always the same ones for a drawer, with numbers up to a limit.
func someTerms(next func(limit int) int, n int, limit int) [][]int {
	all := terms{}
	for len(all) < n {
		powers := letterPowers()[next(40)+40]
		if number := next(limit); number != 0 {
			all[keyOf(powers)] = number
		}
	}
	p, _ := all.told()
	return p
}

// sixthPowers holds the 28 terms of degree 6, all with one number.
func sixthPowers(number int) [][]int {
	p := [][]int{}
	for _, powers := range letterPowers() {
		if sum(powers) == 6 {
			p = append(p, append([]int{number}, powers...))
		}
	}
	return p
}

// shareTerms holds the terms with the parts of a share with at most three parts as powers, in any order, times a number.
func shareTerms(a []int, number int) terms {
	all := terms{}
	for _, order := range orders(3) {
		parts := append(slices.Clone(a), 0, 0, 0)
		all[[5]int{parts[order[0]-1], parts[order[1]-1], parts[order[2]-1]}] = number
	}
	return all
}

// eachShortShare visits all shares with at most three parts.
func eachShortShare(visit func(a []int)) {
	eachShare(func(_ int, a []int) {
		if len(a) <= 3 {
			visit(a)
		}
	})
}

// placesProduct multiplies terms by the chosen sum of k of three letters.
func (s terms) placesProduct(k int) terms {
	all := terms{}
	for places := range placesTerms(3, k, false) {
		for powers, number := range s {
			all[[5]int{powers[0] + places[0], powers[1] + places[1], powers[2] + places[2]}] += number
		}
	}
	return all
}

// putChosen puts the chosen sums of three letters for those of a polynomial.
func putChosen(p [][]int) terms {
	all := terms{}
	for _, term := range p {
		product := terms{{}: term[0]}
		for k, often := range term[1:] {
			for range often {
				product = product.placesProduct(k + 1)
			}
		}
		all = all.plus(product)
	}
	return all
}

// symmetricPolynomials holds those of one share, of some shares, and those that come from chosen sums.
var symmetricPolynomials = sync.OnceValue(func() [][][]int {
	all := [][][]int{nil, {}, sixthPowers(1), sixthPowers(-1000)}
	add := func(s terms) {
		if p, ok := s.told(); ok {
			all = append(all, p)
		}
	}
	next := drawer(10)
	shares := [][]int{}
	eachShortShare(func(a []int) {
		shares = append(shares, a)
		for _, number := range []int{1, -1, 7, 90, 111, 112, 166, 167, 200, 201, 250, 251, -333, -334, -500, -501, 999, 1000, -1000} {
			add(shareTerms(a, number))
		}
	})
	for n := range 300 {
		few, limit := terms{}, []int{3, 100, 1000}[n%3]
		for range n%5 + 1 {
			few = few.plus(shareTerms(shares[next(11)+11], next(limit)))
		}
		add(few)
		add(putChosen(someTerms(next, n%5+1, []int{2, 20, 1000}[n%3])))
	}
	for _, p := range [][][]int{{{1000, 2, 0, 0}, {1000, 0, 1, 0}}, {{-1000, 1, 1, 1}, {-1000, 0, 0, 0}}, {{1, 6, 0, 0}, {-3, 4, 1, 0}}, {{1000, 2, 0, 0}, {-1000, 0, 1, 0}}} {
		add(putChosen(p))
	}
	return all
})

// somePolynomials holds polynomials of no term, of one and of two, of any number of them, and symmetric ones.
var somePolynomials = sync.OnceValue(func() [][][]int {
	all := slices.Clone(symmetricPolynomials())
	for i, powers := range letterPowers() {
		for _, number := range []int{1, -1, 5, 166, 167, -500, 501, 1000, -1000} {
			all = append(all, [][]int{append([]int{number}, powers...)})
		}
		for _, other := range letterPowers()[i+1:] {
			all = append(all, [][]int{append([]int{3}, powers...), append([]int{-2}, other...)})
		}
	}
	next := drawer(11)
	for n := 1; n <= 28; n++ {
		for _, limit := range []int{1, 5, 160, 1000} {
			all = append(all, someTerms(next, n, limit), someTerms(next, n, limit))
		}
	}
	return all
})

// fewPolynomials holds some of them, those with many terms among them.
func fewPolynomials() [][][]int {
	all := [][][]int{sixthPowers(1000), sixthPowers(-1), {{1000, 6, 0, 0}}, {{-7, 0, 0, 0}}, {{1, 3, 2, 1}, {4, 1, 0, 5}}}
	for i, p := range somePolynomials() {
		if i%97 == 0 || i > len(somePolynomials())-24 {
			all = append(all, p)
		}
	}
	return all
}

// noPolynomials holds lists that are no polynomials.
var noPolynomials = sync.OnceValue(func() [][][]int {
	bad := [][]int{
		nil, {}, {1}, {1, 0, 0}, {1, 1, 0, 0, 0}, {1, 0, 0, 0, 0}, {1, 2, 3, 0, 0, 0}, make([]int, 1000),
		{1, -1, 0, 0}, {1, 0, -1, 0}, {1, 0, 0, -1}, {1, 3, -1, 2}, {1, 7, 0, 0}, {1, 0, 7, 0}, {1, 0, 0, 7}, {1, 7, -1, 0}, {1, 8, -1, -1}, {1, -1, 7, 0},
		{1, 6, 1, 0}, {1, 6, 0, 1}, {1, 0, 6, 1}, {1, 1, 0, 6}, {1, 3, 3, 1}, {1, 2, 2, 3}, {1, 4, 0, 3}, {1, 6, 6, 6}, {1000, 5, 1, 1}, {0, 0, 0, 0}, {0, 3, 2, 1},
		{1, math.MaxInt, math.MaxInt, 2}, {1, math.MaxInt, math.MaxInt, 7}, {1, math.MinInt, math.MinInt, 0}, {1, math.MinInt, 3, math.MinInt}, {1, math.MaxInt, math.MinInt, 2},
		{1, 1 << 62, 1 << 62, math.MinInt}, {1, 1 << 62, 1 << 62, 1}, {math.MinInt, math.MinInt, math.MinInt, math.MinInt}, {math.MaxInt, math.MaxInt, math.MaxInt, math.MaxInt},
	}
	for _, n := range append([]int{1001, -1001, 1002, 2000, -2000, 1 << 16, math.MinInt + 1, math.MinInt32, 1 << 62}, outside...) {
		if n < -1000 || n > 1000 {
			bad = append(bad, []int{n, 2, 1, 0})
		}
		if n < 0 || n > 6 {
			bad = append(bad, []int{1, n, 0, 0}, []int{1, 0, n, 0}, []int{1, 0, 0, n}, []int{1, n, n, n})
		}
	}
	all := [][][]int{}
	for _, term := range bad {
		all = append(all, [][]int{term}, [][]int{{1, 6, 0, 0}, term}, [][]int{term, {1, 0, 0, 0}}, [][]int{{1, 6, 0, 0}, term, {1, 0, 0, 0}})
	}
	for i, powers := range letterPowers() {
		term := append([]int{2}, powers...)
		all = append(all, [][]int{term, term}, [][]int{term, append([]int{-2}, powers...)})
		for _, other := range letterPowers()[:i] {
			all = append(all, [][]int{term, append([]int{3}, other...)})
		}
	}
	full := sixthPowers(2)
	swapped := slices.Clone(full)
	swapped[26], swapped[27] = swapped[27], swapped[26]
	all = append(all, swapped, slices.Insert(slices.Clone(full), 28, []int{1, 0, 0, 5}), append(slices.Clone(full), []int{1, 0, 0, 0}), slices.Insert(slices.Clone(full), 1, []int{1, 5, 0, 0}))
	all = append(all, slices.Repeat([][]int{{1, 0, 0, 0}}, 100000), slices.Repeat(full, 2), [][]int{{1, 1, 0, 0}, {1, 0, 1, 0}, {1, 0, 0, 1}, {1, 0, 1, 0}})
	every := [][]int{}
	for _, powers := range letterPowers() {
		every = append(every, append([]int{1}, powers...))
	}
	return append(all, every[:29], every[55:], every)
})

// briefly shortens what is no polynomial for a message.
func briefly(p [][]int) [][]int {
	all := [][]int{}
	for _, term := range p[:min(len(p), 30)] {
		all = append(all, term[:min(len(term), 10)])
	}
	return all
}

// atLetters returns the value of a polynomial, which must be told.
func atLetters(t *testing.T, p [][]int, x []int) int {
	t.Helper()
	value, ok := impl.LettersAt(p, x[0], x[1], x[2])
	if !ok {
		t.Errorf("LettersAt of %v at %v fails", briefly(p), x)
	}
	return value
}

// ofLetters holds what makes a polynomial of one.
func ofLetters() map[string]func(p [][]int) ([][]int, bool) {
	return map[string]func(p [][]int) ([][]int, bool){
		"LettersSwap 0 1": func(p [][]int) ([][]int, bool) { return impl.LettersSwap(p, 0, 1) },
		"LettersSwap 2 0": func(p [][]int) ([][]int, bool) { return impl.LettersSwap(p, 2, 0) },
		"LettersSwap 1 2": func(p [][]int) ([][]int, bool) { return impl.LettersSwap(p, 1, 2) },
		"LettersSum":      func(p [][]int) ([][]int, bool) { return impl.LettersSum(p, p) },
		"LettersSum nil":  func(p [][]int) ([][]int, bool) { return impl.LettersSum(p, nil) },
		"LettersSum of":   func(p [][]int) ([][]int, bool) { return impl.LettersSum([][]int{}, p) },
		"LettersSum one":  func(p [][]int) ([][]int, bool) { return impl.LettersSum(p, [][]int{{1, 3, 2, 1}}) },
		"LettersAll":      impl.LettersAll,
		"LettersShares":   impl.LettersShares,
		"LettersChosen":   impl.LettersChosen,
	}
}

func TestPromise86LettersIn(t *testing.T) {
	for _, p := range somePolynomials() {
		if !wantLettersIn(p) || !impl.LettersIn(p) {
			t.Fatalf("LettersIn does not hold for %v", p)
		}
		total := 0
		for i, term := range p {
			total += term[0]
			if !impl.LettersIn(p[i+1:]) || !impl.LettersIn(p[:i]) {
				t.Errorf("LettersIn does not hold for parts of %v", p)
			}
		}
		value, ok := impl.LettersAt(p, 1, 1, 1)
		checkNumber(t, "LettersAt at ones", p, value, ok, total, true)
	}
	for _, p := range noPolynomials() {
		if wantLettersIn(p) || impl.LettersIn(p) {
			t.Errorf("LettersIn holds for %v", briefly(p))
		}
	}
}

// TestLettersInTerms has all terms of powers in the range and just beyond it, and all pairs of terms.
func TestLettersInTerms(t *testing.T) {
	held := 0
	for _, powers := range lists(3, -1, 7) {
		for _, number := range []int{0, 1, -1, 999, 1000, 1001, -1000, -1001} {
			p := [][]int{append([]int{number}, powers...)}
			if impl.LettersIn(p) != wantLettersIn(p) {
				t.Errorf("LettersIn of %v is %v", p, !wantLettersIn(p))
			}
			if impl.LettersIn(p) {
				held++
			}
		}
	}
	if held != 84*5 {
		t.Errorf("LettersIn holds for %d of the terms", held)
	}
	for i, first := range letterPowers() {
		for k, second := range letterPowers() {
			p := [][]int{append([]int{4}, first...), append([]int{-4}, second...)}
			if impl.LettersIn(p) != (i < k) {
				t.Errorf("LettersIn of %v is %v", p, i >= k)
			}
		}
	}
}

// TestLettersInKnown has polynomials of up to 28 terms, and one more.
func TestLettersInKnown(t *testing.T) {
	if !impl.LettersIn(nil) || !impl.LettersIn([][]int{}) || !impl.LettersIn([][]int{{-1000, 0, 0, 6}, {1000, 0, 0, 0}}) {
		t.Error("LettersIn does not hold for no terms, or for two")
	}
	p := [][]int{}
	for i, powers := range letterPowers() {
		if impl.LettersIn(p) != (i <= 28) {
			t.Errorf("LettersIn of %d terms is %v", i, i > 28)
		}
		p = append(p, append([]int{i + 1}, powers...))
	}
	if p := sixthPowers(-1000); len(p) != 28 || !impl.LettersIn(p) {
		t.Errorf("LettersIn of %d terms does not hold", len(p))
	}
}

func TestPromise87LettersAt(t *testing.T) {
	points := [][]int{{0, 0, 0}, {1, 1, 1}, {1, 2, 3}, {-1, 2, 0}, {5, 5, 5}, {-5, -5, -5}, {5, -5, 4}, {0, 0, 3}, {0, -2, 0}, {3, 0, 0}}
	for _, p := range somePolynomials() {
		want := termsOf(p)
		for _, x := range points {
			value, ok := impl.LettersAt(p, x[0], x[1], x[2])
			checkNumber(t, "LettersAt", []any{p, x}, value, ok, want.at(x), true)
		}
		value, ok := impl.LettersAt(p, 0, 0, 0)
		checkNumber(t, "LettersAt at noughts", p, value, ok, want[[5]int{}], true)
	}
	for _, p := range fewPolynomials()[:12] {
		want := termsOf(p)
		for _, x := range lists(3, -5, 5) {
			value, ok := impl.LettersAt(p, x[0], x[1], x[2])
			checkNumber(t, "LettersAt", []any{p, x}, value, ok, want.at(x), true)
		}
	}
}

// TestLettersAtKnown holds values that were found by hand.
func TestLettersAtKnown(t *testing.T) {
	for _, c := range []struct {
		p    [][]int
		x    [3]int
		want int
	}{
		{nil, [3]int{0, 0, 0}, 0}, {[][]int{}, [3]int{5, -5, 5}, 0}, {[][]int{{7, 0, 0, 0}}, [3]int{0, 0, 0}, 7}, {[][]int{{-7, 0, 0, 0}}, [3]int{5, 4, -3}, -7},
		{[][]int{{1, 1, 0, 0}}, [3]int{2, 3, 5}, 2}, {[][]int{{1, 0, 1, 0}}, [3]int{2, 3, 5}, 3}, {[][]int{{1, 0, 0, 1}}, [3]int{2, 3, 5}, 5}, {[][]int{{1, 0, 0, 1}}, [3]int{2, 3, 0}, 0},
		{[][]int{{1000, 6, 0, 0}}, [3]int{5, 0, 0}, 15625000}, {[][]int{{-1000, 0, 6, 0}}, [3]int{1, -5, 1}, -15625000}, {[][]int{{1, 3, 2, 1}}, [3]int{1, 2, 3}, 12},
		{[][]int{{1, 3, 2, 1}}, [3]int{3, 2, 1}, 108}, {[][]int{{2, 1, 1, 0}, {-3, 0, 0, 2}, {10, 0, 0, 0}}, [3]int{-1, 2, 3}, -21}, {[][]int{{1, 0, 0, 5}}, [3]int{1, 1, -5}, -3125},
		{sixthPowers(1000), [3]int{5, 5, 5}, 437500000}, {sixthPowers(1), [3]int{1, 0, 0}, 1}, {sixthPowers(-1000), [3]int{-5, -5, -5}, -437500000},
	} {
		value, ok := impl.LettersAt(c.p, c.x[0], c.x[1], c.x[2])
		checkNumber(t, "LettersAt", []any{c.p, c.x}, value, ok, c.want, true)
	}
}

// TestLettersAtRange: each number is from -5 to 5, whatever the powers of its letter are.
func TestLettersAtRange(t *testing.T) {
	numbers := append([]int{-6, 6, -7, math.MaxInt - 1, math.MinInt + 1, math.MinInt32, 1 << 62, 1<<62 + 3}, outside...)
	for _, p := range [][][]int{nil, {{4, 0, 0, 0}}, {{1, 1, 0, 0}}, {{1, 0, 1, 1}}, sixthPowers(3)} {
		for i := range 3 {
			for _, number := range numbers {
				if number >= -5 && number <= 5 {
					continue
				}
				for _, x := range [][]int{{0, 0, 0}, {1, 1, 1}, {5, -5, 2}, {number, number, number}, {math.MaxInt, math.MinInt, 0}} {
					x[i] = number
					value, ok := impl.LettersAt(p, x[0], x[1], x[2])
					checkNumber(t, "LettersAt", []any{p, x}, value, ok, 0, false)
				}
			}
		}
	}
}

// checkLettersSum compares a sum with that of all terms, and reports whether it was told.
func checkLettersSum(t *testing.T, p [][]int, q [][]int) bool {
	t.Helper()
	of := [][][]int{p, q}
	want, wanted := termsOf(p).plus(termsOf(q)).told()
	if !wanted {
		want = nil
	}
	s, ok := impl.LettersSum(p, q)
	checkLists(t, "LettersSum", of, s, ok, want, wanted)
	back, okb := impl.LettersSum(q, p)
	checkLists(t, "LettersSum exchanged", of, back, okb, want, wanted)
	if ok {
		x := []int{1, 2, -1}
		value, okv := impl.LettersAt(s, 1, 2, -1)
		checkNumber(t, "LettersAt of the sum", of, value, okv, atLetters(t, p, x)+atLetters(t, q, x), true)
	}
	return ok
}

func TestPromise88LettersSum(t *testing.T) {
	told, others := 0, 0
	count := func(ok bool) {
		if ok {
			told++
		} else {
			others++
		}
	}
	few := fewPolynomials()
	for _, p := range few {
		for _, q := range few {
			count(checkLettersSum(t, p, q))
		}
		for _, powers := range letterPowers() {
			for _, number := range []int{1, -1, 500, 1000, -1000} {
				count(checkLettersSum(t, p, [][]int{append([]int{number}, powers...)}))
			}
		}
	}
	for _, p := range somePolynomials() {
		opposite, _ := termsOf(p).numbersTimes(-1).told()
		count(checkLettersSum(t, p, nil))
		count(checkLettersSum(t, p, p))
		count(checkLettersSum(t, p, opposite))
		if s, ok := impl.LettersSum(p, opposite); !ok || len(s) != 0 {
			t.Errorf("LettersSum of %v and its opposite is %v, %v", p, s, ok)
		}
	}
	if told < 1000 || others < 1000 {
		t.Errorf("%d sums are told and %d are not", told, others)
	}
}

// TestLettersSumKnown has terms that cancel, numbers at 1000 and just beyond, and 28 terms and one more.
func TestLettersSumKnown(t *testing.T) {
	all := sixthPowers(1)
	even, odd := [][]int{}, [][]int{}
	for i, term := range all {
		if i%2 == 0 {
			even = append(even, term)
		} else {
			odd = append(odd, term)
		}
	}
	for _, c := range []struct {
		p, q, want [][]int
	}{
		{nil, nil, [][]int{}}, {[][]int{}, [][]int{{1, 0, 0, 0}}, [][]int{{1, 0, 0, 0}}}, {[][]int{{1, 1, 0, 0}}, [][]int{{1, 0, 1, 0}}, [][]int{{1, 1, 0, 0}, {1, 0, 1, 0}}},
		{[][]int{{1, 0, 0, 1}}, [][]int{{2, 1, 0, 0}, {5, 0, 1, 0}}, [][]int{{2, 1, 0, 0}, {5, 0, 1, 0}, {1, 0, 0, 1}}}, {[][]int{{3, 2, 1, 0}}, [][]int{{-3, 2, 1, 0}}, [][]int{}},
		{[][]int{{3, 2, 1, 0}, {1, 0, 0, 0}}, [][]int{{-3, 2, 1, 0}}, [][]int{{1, 0, 0, 0}}}, {[][]int{{500, 0, 0, 6}}, [][]int{{500, 0, 0, 6}}, [][]int{{1000, 0, 0, 6}}},
		{[][]int{{500, 0, 0, 6}}, [][]int{{501, 0, 0, 6}}, nil}, {[][]int{{-500, 0, 0, 6}}, [][]int{{-501, 0, 0, 6}}, nil}, {[][]int{{1000, 0, 0, 0}}, [][]int{{1, 0, 0, 0}}, nil},
		{[][]int{{1000, 0, 0, 0}}, [][]int{{-1, 0, 0, 0}}, [][]int{{999, 0, 0, 0}}}, {[][]int{{-1000, 0, 0, 0}}, [][]int{{-1, 0, 0, 0}}, nil}, {[][]int{{1000, 0, 0, 0}}, [][]int{{-1000, 0, 0, 0}}, [][]int{}},
		{even, odd, all}, {odd, even, all}, {all, [][]int{{1, 5, 0, 0}}, nil}, {all, [][]int{{-1, 6, 0, 0}, {2, 5, 0, 0}}, append([][]int{all[1], all[2], {2, 5, 0, 0}}, all[3:]...)}, {all, all[:27], append(sixthPowers(2)[:27], all[27])},
	} {
		s, ok := impl.LettersSum(c.p, c.q)
		checkLists(t, "LettersSum", [][][]int{c.p, c.q}, s, ok, c.want, c.want != nil)
	}
}

func TestPromise89LettersSwap(t *testing.T) {
	x := [3]int{2, -3, 5}
	for _, p := range somePolynomials() {
		for _, pair := range [][2]int{{0, 1}, {1, 0}, {0, 2}, {2, 0}, {1, 2}, {2, 1}} {
			of := []any{p, pair}
			order := []int{1, 2, 3}
			order[pair[0]], order[pair[1]] = order[pair[1]], order[pair[0]]
			want, _ := termsOf(p).inOrderOf(order).told()
			q, ok := impl.LettersSwap(p, pair[0], pair[1])
			checkLists(t, "LettersSwap", of, q, ok, want, true)
			back, okb := impl.LettersSwap(q, pair[0], pair[1])
			checkLists(t, "LettersSwap twice", of, back, okb, p, true)
			y := x
			y[pair[0]], y[pair[1]] = y[pair[1]], y[pair[0]]
			value, okv := impl.LettersAt(q, y[0], y[1], y[2])
			checkNumber(t, "LettersAt of LettersSwap", of, value, okv, atLetters(t, p, x[:]), true)
		}
	}
}

// TestLettersSwapKnown holds exchanges that are written out.
func TestLettersSwapKnown(t *testing.T) {
	p := [][]int{{7, 3, 2, 1}, {-1, 1, 0, 4}, {5, 0, 2, 0}, {2, 0, 0, 0}}
	for _, c := range []struct {
		i, k int
		want [][]int
	}{
		{0, 1, [][]int{{7, 2, 3, 1}, {5, 2, 0, 0}, {-1, 0, 1, 4}, {2, 0, 0, 0}}}, {0, 2, [][]int{{-1, 4, 0, 1}, {7, 1, 2, 3}, {5, 0, 2, 0}, {2, 0, 0, 0}}},
		{1, 2, [][]int{{7, 3, 1, 2}, {-1, 1, 4, 0}, {5, 0, 0, 2}, {2, 0, 0, 0}}},
	} {
		q, ok := impl.LettersSwap(p, c.i, c.k)
		checkLists(t, "LettersSwap", []any{p, c.i, c.k}, q, ok, c.want, true)
		q, ok = impl.LettersSwap(p, c.k, c.i)
		checkLists(t, "LettersSwap", []any{p, c.k, c.i}, q, ok, c.want, true)
	}
}

// TestLettersSwapRange: two numbers of 0, 1 and 2 are needed, for whatever polynomial.
func TestLettersSwapRange(t *testing.T) {
	numbers := append([]int{0, 1, 2, 3, 4, -3, math.MaxInt - 1, math.MinInt + 1, math.MinInt32, 1<<62 + 1}, outside...)
	for _, p := range [][][]int{nil, {{4, 0, 0, 0}}, {{1, 1, 1, 1}}, {{1, 3, 2, 1}}, sixthPowers(3)} {
		for _, i := range numbers {
			for _, k := range numbers {
				q, ok := impl.LettersSwap(p, i, k)
				if wanted := i >= 0 && i <= 2 && k >= 0 && k <= 2 && i != k; ok != wanted || !ok && len(q) != 0 {
					t.Errorf("LettersSwap of %v with %d and %d is %v, %v", p, i, k, q, ok)
				}
			}
		}
	}
}

func TestPromise90LettersSymmetric(t *testing.T) {
	held, others := 0, 0
	for _, p := range somePolynomials() {
		want := termsOf(p).symmetric()
		if impl.LettersSymmetric(p) != want {
			t.Errorf("LettersSymmetric of %v is %v", p, !want)
		}
		if !want {
			others++
			continue
		}
		held++
		value, ok := impl.LettersAt(p, -2, 1, 2)
		checkNumber(t, "LettersAt of a symmetric polynomial", p, value, ok, atLetters(t, p, []int{1, 2, -2}), true)
		for _, pair := range [][2]int{{0, 1}, {0, 2}, {1, 2}} {
			q, ok := impl.LettersSwap(p, pair[0], pair[1])
			checkLists(t, "LettersSwap of a symmetric polynomial", []any{p, pair}, q, ok, p, true)
		}
	}
	if held < 400 || others < 3000 {
		t.Errorf("%d polynomials are symmetric and %d are not", held, others)
	}
}

// TestLettersSymmetricKnown has polynomials that just some exchanges or turns of the letters leave, or all but for a number or a sign.
func TestLettersSymmetricKnown(t *testing.T) {
	for _, p := range [][][]int{
		nil, {}, {{1000, 0, 0, 0}}, {{-1, 2, 2, 2}}, {{2, 1, 0, 0}, {2, 0, 1, 0}, {2, 0, 0, 1}}, {{2, 1, 1, 0}, {2, 1, 0, 1}, {2, 0, 1, 1}}, sixthPowers(4),
		{{1, 2, 1, 0}, {1, 2, 0, 1}, {1, 1, 2, 0}, {1, 1, 0, 2}, {1, 0, 2, 1}, {1, 0, 1, 2}},
	} {
		if !impl.LettersSymmetric(p) {
			t.Errorf("LettersSymmetric does not hold for %v", p)
		}
	}
	for _, p := range [][][]int{
		{{1, 1, 0, 0}}, {{1, 0, 1, 0}}, {{1, 0, 0, 1}}, {{1, 1, 1, 0}}, {{1, 1, 0, 1}}, {{1, 0, 1, 1}}, {{1, 1, 0, 0}, {1, 0, 1, 0}}, {{1, 1, 0, 0}, {1, 0, 0, 1}}, {{1, 0, 1, 0}, {1, 0, 0, 1}},
		{{2, 1, 0, 0}, {2, 0, 1, 0}, {3, 0, 0, 1}}, {{2, 1, 0, 0}, {3, 0, 1, 0}, {2, 0, 0, 1}}, {{3, 1, 0, 0}, {2, 0, 1, 0}, {2, 0, 0, 1}}, {{2, 1, 0, 0}, {-2, 0, 1, 0}, {2, 0, 0, 1}},
		{{1, 2, 1, 0}, {1, 1, 0, 2}, {1, 0, 2, 1}}, {{1, 2, 1, 0}, {-1, 2, 0, 1}, {-1, 1, 2, 0}, {1, 1, 0, 2}, {1, 0, 2, 1}, {-1, 0, 1, 2}}, sixthPowers(4)[:27],
		{{1, 3, 1, 0}, {1, 2, 0, 1}, {1, 1, 2, 0}, {1, 1, 0, 2}, {1, 0, 2, 1}, {1, 0, 1, 2}},
	} {
		if impl.LettersSymmetric(p) {
			t.Errorf("LettersSymmetric holds for %v", p)
		}
	}
}

func TestPromise91LettersAll(t *testing.T) {
	told, others := 0, 0
	for _, p := range somePolynomials() {
		all := terms{}
		for _, order := range orders(3) {
			all = all.plus(termsOf(p).inOrderOf(order))
		}
		want, wanted := all.told()
		if !wanted {
			want = nil
		}
		q, ok := impl.LettersAll(p)
		checkLists(t, "LettersAll", p, q, ok, want, wanted)
		if !ok {
			others++
			continue
		}
		told++
		if !impl.LettersSymmetric(q) {
			t.Errorf("LettersAll of %v is %v", p, q)
		}
		value, okv := impl.LettersAt(q, 1, 1, 1)
		checkNumber(t, "LettersAt of LettersAll", p, value, okv, 6*atLetters(t, p, []int{1, 1, 1}), true)
	}
	if told < 2000 || others < 400 {
		t.Errorf("LettersAll is told %d times and fails %d times", told, others)
	}
}

// TestLettersAllKnown has numbers that are at 1000 in the end or just beyond, terms that cancel, and 28 terms and one more.
func TestLettersAllKnown(t *testing.T) {
	four := [][]int{{1, 5, 1, 0}, {1, 4, 1, 0}, {1, 3, 2, 1}, {1, 3, 1, 0}}
	for _, c := range []struct {
		p, want [][]int
	}{
		{nil, [][]int{}}, {[][]int{{166, 0, 0, 0}}, [][]int{{996, 0, 0, 0}}}, {[][]int{{167, 0, 0, 0}}, nil}, {[][]int{{-166, 1, 1, 1}}, [][]int{{-996, 1, 1, 1}}}, {[][]int{{-167, 1, 1, 1}}, nil},
		{[][]int{{500, 0, 1, 0}}, [][]int{{1000, 1, 0, 0}, {1000, 0, 1, 0}, {1000, 0, 0, 1}}}, {[][]int{{501, 0, 1, 0}}, nil}, {[][]int{{-500, 1, 1, 0}}, [][]int{{-1000, 1, 1, 0}, {-1000, 1, 0, 1}, {-1000, 0, 1, 1}}},
		{[][]int{{-501, 1, 1, 0}}, nil}, {[][]int{{1000, 1, 0, 0}, {-1000, 0, 0, 1}}, [][]int{}}, {[][]int{{1000, 1, 0, 0}, {-501, 0, 1, 0}}, [][]int{{998, 1, 0, 0}, {998, 0, 1, 0}, {998, 0, 0, 1}}},
		{[][]int{{1000, 0, 1, 2}}, [][]int{{1000, 2, 1, 0}, {1000, 2, 0, 1}, {1000, 1, 2, 0}, {1000, 1, 0, 2}, {1000, 0, 2, 1}, {1000, 0, 1, 2}}}, {[][]int{{1000, 2, 1, 0}, {1, 0, 1, 2}}, nil},
		{[][]int{{1000, 2, 1, 0}, {-1000, 0, 1, 2}}, [][]int{}}, {[][]int{{1000, 2, 1, 0}, {1000, 1, 2, 0}, {-1000, 0, 1, 2}}, [][]int{{1000, 2, 1, 0}, {1000, 2, 0, 1}, {1000, 1, 2, 0}, {1000, 1, 0, 2}, {1000, 0, 2, 1}, {1000, 0, 1, 2}}},
		{append(slices.Clone(four), []int{1, 3, 0, 2}), nil},
		{append(slices.Clone(four), []int{1, 3, 0, 2}), nil},
	} {
		q, ok := impl.LettersAll(c.p)
		checkLists(t, "LettersAll", c.p, q, ok, c.want, c.want != nil)
	}
	for _, c := range []struct {
		more [][]int
		want int
	}{
		{nil, 24}, {[][]int{{1, 1, 1, 1}}, 25}, {[][]int{{1, 1, 0, 0}, {1, 0, 0, 0}}, 28}, {[][]int{{1, 1, 1, 1}, {1, 1, 0, 0}, {1, 0, 0, 0}}, 0}, {[][]int{{1, 1, 1, 0}, {-1, 1, 0, 1}, {1, 1, 0, 0}, {1, 0, 0, 0}}, 28},
	} {
		p := append(slices.Clone(four), c.more...)
		if q, ok := impl.LettersAll(p); ok != (c.want > 0) || len(q) != c.want {
			t.Errorf("LettersAll of %v has %d terms, %v, not %d", p, len(q), ok, c.want)
		}
	}
}

func TestPromise92LettersShares(t *testing.T) {
	others := 0
	for _, p := range somePolynomials() {
		q, ok := impl.LettersShares(p)
		if !termsOf(p).symmetric() {
			others++
			checkLists(t, "LettersShares", p, q, ok, nil, false)
			continue
		}
		want := slices.DeleteFunc(slices.Clone(p), func(term []int) bool { return term[1] < term[2] || term[2] < term[3] })
		checkLists(t, "LettersShares", p, q, ok, want, true)
		x := []int{1, 2, 3}
		value := 0
		for _, term := range q {
			powers := slices.DeleteFunc(slices.Clone(term[1:]), func(power int) bool { return power == 0 })
			plain, ok := impl.AtPlain(powers, x)
			if !ok {
				t.Errorf("AtPlain of %v fails", powers)
			}
			value += term[0] * plain
		}
		if value != atLetters(t, p, x) {
			t.Errorf("LettersShares of %v is %v", p, q)
		}
	}
	if others < 3000 {
		t.Errorf("%d polynomials are not symmetric", others)
	}
}

// TestLettersSharesKnown holds terms that are written out.
func TestLettersSharesKnown(t *testing.T) {
	for _, c := range []struct {
		p, want [][]int
	}{
		{nil, [][]int{}}, {[][]int{{-4, 0, 0, 0}}, [][]int{{-4, 0, 0, 0}}}, {[][]int{{2, 1, 0, 0}, {2, 0, 1, 0}, {2, 0, 0, 1}}, [][]int{{2, 1, 0, 0}}}, {[][]int{{1, 1, 0, 0}}, nil}, {[][]int{{1, 2, 1, 0}}, nil},
		{[][]int{{1, 2, 2, 2}, {1, 2, 1, 0}, {1, 2, 0, 1}, {1, 1, 2, 0}, {1, 1, 0, 2}, {1, 0, 2, 1}, {1, 0, 1, 2}, {3, 0, 0, 0}}, [][]int{{1, 2, 2, 2}, {1, 2, 1, 0}, {3, 0, 0, 0}}},
		{sixthPowers(1000), [][]int{{1000, 6, 0, 0}, {1000, 5, 1, 0}, {1000, 4, 2, 0}, {1000, 4, 1, 1}, {1000, 3, 3, 0}, {1000, 3, 2, 1}, {1000, 2, 2, 2}}},
	} {
		q, ok := impl.LettersShares(c.p)
		checkLists(t, "LettersShares", c.p, q, ok, c.want, c.want != nil)
	}
}

// chosenOfShares holds, by the numbers of each share with at most three parts, its plain sum of three letters told by chosen sums of
// 1, 2 and 3, as equations of the tables of all letters tell it: the chosen sums of more letters than three are 0.
var chosenOfShares = sync.OnceValue(func() map[string]terms {
	all := map[string]terms{}
	for d, shares := range knownShares() {
		for i, a := range shares {
			unit := make([]int, len(shares))
			unit[i] = 1
			told := terms{}
			for k, number := range solve(wayTables()["e"][d], unit) {
				powers := [5]int{}
				for _, part := range shares[k] {
					powers[min(part, 4)-1]++
				}
				if powers[3] == 0 {
					told[powers] = int(number.Num().Int64())
				}
			}
			all[digits(a)] = told
		}
	}
	return all
})

// wantChosen is what LettersChosen is to return for a symmetric polynomial.
func wantChosen(p [][]int) ([][]int, bool) {
	all := terms{}
	for _, term := range p {
		if term[1] >= term[2] && term[2] >= term[3] {
			powers := slices.DeleteFunc(slices.Clone(term[1:]), func(power int) bool { return power == 0 })
			all = all.plus(chosenOfShares()[digits(powers)].numbersTimes(term[0]))
		}
	}
	return all.told()
}

func TestPromise93LettersChosen(t *testing.T) {
	told, beyond, others := 0, 0, 0
	for _, p := range somePolynomials() {
		q, ok := impl.LettersChosen(p)
		if !termsOf(p).symmetric() {
			others++
			checkLists(t, "LettersChosen", p, q, ok, nil, false)
			continue
		}
		want, wanted := wantChosen(p)
		if !wanted {
			beyond++
			checkLists(t, "LettersChosen", p, q, ok, nil, false)
			continue
		}
		told++
		checkLists(t, "LettersChosen", p, q, ok, want, true)
		if !putChosen(q).same(termsOf(p)) {
			t.Errorf("LettersChosen of %v is %v", p, q)
		}
		value, okv := impl.LettersAt(q, 2, -1, -2)
		checkNumber(t, "LettersAt of LettersChosen", p, value, okv, atLetters(t, p, []int{1, 2, -1}), true)
	}
	if told < 300 || beyond < 100 || others < 3000 {
		t.Errorf("LettersChosen is told %d times, beyond the numbers %d times, and of no symmetric polynomial %d times", told, beyond, others)
	}
}

// TestLettersChosenOfThreeNumbers puts the chosen sums of all points of three numbers, if they are in the range of the letters.
func TestLettersChosenOfThreeNumbers(t *testing.T) {
	put := 0
	for i, p := range symmetricPolynomials() {
		q, ok := impl.LettersChosen(p)
		if !ok || i%9 != 0 {
			continue
		}
		for _, x := range lists(3, -5, 5) {
			sums := []int{x[0] + x[1] + x[2], x[0]*x[1] + x[0]*x[2] + x[1]*x[2], x[0] * x[1] * x[2]}
			if slices.Max(sums) > 5 || slices.Min(sums) < -5 {
				continue
			}
			put++
			value, okv := impl.LettersAt(q, sums[0], sums[1], sums[2])
			checkNumber(t, "LettersAt of LettersChosen", []any{p, x}, value, okv, atLetters(t, p, x), true)
		}
	}
	if put < 1000 {
		t.Errorf("%d values were compared", put)
	}
}

// TestLettersChosenKnown holds polynomials that were found by hand, those with numbers at 1000 in the end or just beyond among them.
func TestLettersChosenKnown(t *testing.T) {
	squares := func(number int) [][]int { return [][]int{{number, 2, 0, 0}, {number, 0, 2, 0}, {number, 0, 0, 2}} }
	for _, c := range []struct {
		p, want [][]int
	}{
		{nil, [][]int{}}, {[][]int{{-1000, 0, 0, 0}}, [][]int{{-1000, 0, 0, 0}}}, {[][]int{{7, 1, 0, 0}, {7, 0, 1, 0}, {7, 0, 0, 1}}, [][]int{{7, 1, 0, 0}}},
		{[][]int{{7, 1, 1, 0}, {7, 1, 0, 1}, {7, 0, 1, 1}}, [][]int{{7, 0, 1, 0}}}, {[][]int{{1000, 1, 1, 1}}, [][]int{{1000, 0, 0, 1}}}, {[][]int{{3, 2, 2, 2}, {-1, 0, 0, 0}}, [][]int{{3, 0, 0, 2}, {-1, 0, 0, 0}}},
		{squares(1), [][]int{{1, 2, 0, 0}, {-2, 0, 1, 0}}}, {squares(500), [][]int{{500, 2, 0, 0}, {-1000, 0, 1, 0}}}, {squares(501), nil}, {squares(-500), [][]int{{-500, 2, 0, 0}, {1000, 0, 1, 0}}}, {squares(-501), nil},
		{[][]int{{1000, 2, 0, 0}, {1000, 1, 1, 0}, {1000, 1, 0, 1}, {1000, 0, 2, 0}, {1000, 0, 1, 1}, {1000, 0, 0, 2}}, [][]int{{1000, 2, 0, 0}, {-1000, 0, 1, 0}}},
		{[][]int{{1000, 2, 0, 0}, {999, 1, 1, 0}, {999, 1, 0, 1}, {1000, 0, 2, 0}, {999, 0, 1, 1}, {1000, 0, 0, 2}}, nil},
		{[][]int{{1, 2, 1, 0}, {1, 2, 0, 1}, {1, 1, 2, 0}, {1, 1, 0, 2}, {1, 0, 2, 1}, {1, 0, 1, 2}}, [][]int{{1, 1, 1, 0}, {-3, 0, 0, 1}}}, {[][]int{{1, 1, 0, 0}}, nil}, {[][]int{{1, 2, 0, 0}, {1, 0, 2, 0}}, nil},
		{[][]int{{1, 3, 0, 0}, {1, 0, 3, 0}, {1, 0, 0, 3}}, [][]int{{1, 3, 0, 0}, {-3, 1, 1, 0}, {3, 0, 0, 1}}},
		{[][]int{{1, 6, 0, 0}, {1, 0, 6, 0}, {1, 0, 0, 6}}, [][]int{{1, 6, 0, 0}, {-6, 4, 1, 0}, {6, 3, 0, 1}, {9, 2, 2, 0}, {-12, 1, 1, 1}, {-2, 0, 3, 0}, {3, 0, 0, 2}}},
		{sixthPowers(1), [][]int{{1, 6, 0, 0}, {-5, 4, 1, 0}, {4, 3, 0, 1}, {6, 2, 2, 0}, {-6, 1, 1, 1}, {-1, 0, 3, 0}, {1, 0, 0, 2}}},
		{[][]int{{1, 2, 0, 0}, {1, 1, 1, 1}, {1, 1, 0, 0}, {1, 0, 2, 0}, {1, 0, 1, 0}, {1, 0, 0, 2}, {1, 0, 0, 1}, {5, 0, 0, 0}}, [][]int{{1, 2, 0, 0}, {1, 1, 0, 0}, {-2, 0, 1, 0}, {1, 0, 0, 1}, {5, 0, 0, 0}}},
	} {
		q, ok := impl.LettersChosen(c.p)
		checkLists(t, "LettersChosen", c.p, q, ok, c.want, c.want != nil)
	}
}

func TestLettersOfNoPolynomials(t *testing.T) {
	for _, p := range noPolynomials() {
		of := briefly(p)
		for name, tell := range ofLetters() {
			q, ok := tell(p)
			checkLists(t, name, of, q, ok, nil, false)
		}
		for _, other := range [][][]int{nil, {{1, 0, 0, 0}}, sixthPowers(1), p} {
			q, ok := impl.LettersSum(p, other)
			checkLists(t, "LettersSum", of, q, ok, nil, false)
			q, ok = impl.LettersSum(other, p)
			checkLists(t, "LettersSum exchanged", of, q, ok, nil, false)
		}
		for _, i := range []int{-1, 0, 1, 3, math.MaxInt, math.MinInt} {
			q, ok := impl.LettersSwap(p, i, 2)
			checkLists(t, "LettersSwap", of, q, ok, nil, false)
		}
		for _, x := range [][3]int{{0, 0, 0}, {1, 1, 1}, {5, -5, 3}, {6, 0, 0}, {math.MinInt, 0, math.MaxInt}} {
			value, ok := impl.LettersAt(p, x[0], x[1], x[2])
			checkNumber(t, "LettersAt", of, value, ok, 0, false)
		}
		if impl.LettersSymmetric(p) {
			t.Errorf("LettersSymmetric holds for %v", of)
		}
	}
}

// spacedLists is spaced for the lists of a list, which has room behind it too.
func spacedLists(p [][]int) [][]int {
	all := make([][]int, 0, len(p)+40)
	for _, list := range p {
		all = append(all, spaced(list))
	}
	return all
}

// unspoiltLists fails the test if lists made by spacedLists are not as they were.
func unspoiltLists(t *testing.T, name string, q [][]int, p [][]int) {
	t.Helper()
	for i, list := range p {
		unspoilt(t, name, q[i], list)
	}
	for _, list := range q[len(p):cap(q)] {
		if list != nil {
			t.Errorf("%s wrote behind its argument %v", name, p)
		}
	}
}

// TestLettersMemory: arguments stay as they are, and no result shares memory with them, with another one or with itself.
func TestLettersMemory(t *testing.T) {
	for _, p := range fewPolynomials() {
		r := spacedLists(p)
		for name, tell := range ofLetters() {
			first, ok := tell(r)
			second, _ := tell(r)
			unspoiltLists(t, name, r, p)
			keep := spacedLists(second)
			apart(t, name, slices.Concat(first, second, r)...)
			for i := range first {
				scribble(first[i])
			}
			clear(first[:cap(first)])
			unspoiltLists(t, name, r, p)
			third, again := tell(r)
			checkLists(t, name+" again", p, third, again, keep, ok)
			checkLists(t, name, p, second, ok, keep, ok)
		}
		impl.LettersIn(r)
		impl.LettersSymmetric(r)
		impl.LettersAt(r, 1, -2, 3)
		unspoiltLists(t, "a function of letters", r, p)
		for _, q := range fewPolynomials()[:8] {
			s := spacedLists(q)
			if first, ok := impl.LettersSum(r, s); ok {
				apart(t, "LettersSum", slices.Concat(first, r, s)...)
				clear(first[:cap(first)])
			}
			unspoiltLists(t, "LettersSum", r, p)
			unspoiltLists(t, "LettersSum", s, q)
		}
	}
}

// TestLettersAtOnce asks at once: what one call finds does not show in another one.
func TestLettersAtOnce(t *testing.T) {
	var calls sync.WaitGroup
	for _, p := range fewPolynomials() {
		for name, tell := range ofLetters() {
			want, wanted := tell(p)
			for range 4 {
				calls.Add(1)
				go func() {
					defer calls.Done()
					q, ok := tell(p)
					checkLists(t, name, p, q, ok, want, wanted)
				}()
			}
		}
	}
	calls.Wait()
}
