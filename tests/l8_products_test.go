package tests

import (
	"math"
	"slices"
	"sync"
	"testing"

	"loop.example/symmetricsums/impl"
)

// ofStrip holds what puts strips to a share.
func ofStrip() map[string]func([]int, int) ([][]int, bool) {
	return map[string]func([]int, int) ([][]int, bool){"StripRow": impl.StripRow, "StripColumn": impl.StripColumn}
}

// ofTwoShares holds what tells a sum of two shares.
func ofTwoShares() map[string]func([]int, []int) (impl.Sum, bool) {
	return map[string]func([]int, []int) (impl.Sum, bool){"ProductSum": impl.ProductSum, "RestSum": impl.RestSum}
}

// wantStrips is what is to come by putting k cells to a share, straight from the definition.
func wantStrips(name string, a []int, k int) [][]int {
	all := [][]int{}
	for _, b := range knownShares()[sum(a)+k] {
		cells, inside := stripBetween(b, a)
		lines := map[int]bool{}
		for _, c := range cells {
			if name == "StripRow" {
				lines[c[1]] = true
			} else {
				lines[c[0]] = true
			}
		}
		if inside && len(lines) == k {
			all = append(all, b)
		}
	}
	return all
}

// checkLists compares lists that were told with the ones that are wanted.
func checkLists(t *testing.T, name string, of any, got [][]int, ok bool, want [][]int, wanted bool) {
	t.Helper()
	if ok != wanted || !sameLists(got, want) {
		t.Errorf("%s of %v is %v, %v, not %v, %v", name, of, got, ok, want, wanted)
	}
}

// eachStrip visits all shares with all lengths of strips for which there is room.
func eachStrip(visit func(a []int, k int)) {
	eachShare(func(d int, a []int) {
		for k := 0; k <= 6-d; k++ {
			visit(a, k)
		}
	})
}

// shareSum is the sum of one way and one share.
func shareSum(way string, a []int) impl.Sum {
	shares := knownShares()[sum(a)]
	f := impl.Sum{Way: way, Degree: sum(a), Coefs: make([]int, len(shares))}
	f.Coefs[placeIn(a)] = 1
	return f
}

// placeIn is the place of a share among all of its degree.
func placeIn(a []int) int {
	return slices.IndexFunc(knownShares()[sum(a)], func(b []int) bool { return slices.Equal(a, b) })
}

// eachJoinable visits all pairs of shares whose degrees together are 6 at most.
func eachJoinable(visit func(a []int, b []int)) {
	eachPair(func(a []int, b []int) {
		if sum(a)+sum(b) <= 6 {
			visit(a, b)
		}
	})
}

// wantProducts holds, by the numbers of two shares, the products of their diagram sums in the way s: multiplied as products
// of powers of letters, and told by diagram sums from equations.
var wantProducts = sync.OnceValue(func() map[[2]string]impl.Sum {
	all := map[[2]string]impl.Sum{}
	eachJoinable(func(a []int, b []int) {
		plain, _ := wantMake(shareSum("s", a), shareSum("s", b))
		all[[2]string{digits(a), digits(b)}], _ = wantChange(plain, "s")
	})
	return all
})

// digits is the key of a share in a map.
func digits(a []int) string {
	text := ""
	for _, part := range a {
		text += string(rune('0' + part))
	}
	return text
}

func wantProduct(a []int, b []int) impl.Sum {
	return wantProducts()[[2]string{digits(a), digits(b)}]
}

// numberIn is the product number of three shares as it is to be.
func numberIn(a []int, b []int, c []int) int {
	return wantProduct(a, b).Coefs[placeIn(c)]
}

// eachTriple visits all shares whose degrees add up.
func eachTriple(visit func(a []int, b []int, c []int)) {
	eachJoinable(func(a []int, b []int) {
		for _, c := range knownShares()[sum(a)+sum(b)] {
			visit(a, b, c)
		}
	})
}

// readFromRight puts cells in the order in which they are read.
func readFromRight(cells [][2]int) [][2]int {
	read := slices.Clone(cells)
	slices.SortFunc(read, func(c [2]int, e [2]int) int {
		if c[0] != e[0] {
			return c[0] - e[0]
		}
		return e[1] - c[1]
	})
	return read
}

// neverMore reports whether, of numbers read one behind the other, there are never more of some number than of the one ahead of
// it, and in the end as many of each as the parts of a share tell.
func neverMore(numbers []int, b []int) bool {
	read := make([]int, len(b)+1)
	for _, n := range numbers {
		read[n]++
		if n > 1 && read[n] > read[n-1] {
			return false
		}
	}
	return slices.Equal(read[1:], b)
}

// countProductFillings counts the ways that the product number of three shares tells, straight from the definition.
func countProductFillings(a []int, b []int, c []int) int {
	cells, inside := stripBetween(c, a)
	if !inside {
		return 0
	}
	read := readFromRight(cells)
	ways := 0
	for _, numbers := range lists(len(read), 1, len(b)) {
		if neverMore(numbers, b) && fillsRest(read, numbers) {
			ways++
		}
	}
	return ways
}

func TestPromise69StripRow(t *testing.T) {
	eachStrip(func(a []int, k int) {
		all, ok := impl.StripRow(a, k)
		checkLists(t, "StripRow", []any{a, k}, all, ok, wantStrips("StripRow", a, k), true)
		for i, b := range all {
			if !impl.ShareIn(b) || !impl.DiagHolds(b, a) || sum(b) != sum(a)+k {
				t.Errorf("StripRow of %v and %d has %v", a, k, b)
			}
			if i > 0 && slices.Compare(all[i-1], b) <= 0 {
				t.Errorf("StripRow of %v and %d has %v ahead of %v", a, k, all[i-1], b)
			}
		}
		if k == 0 && (len(all) != 1 || !slices.Equal(all[0], a)) {
			t.Errorf("StripRow of %v and no cells is %v", a, all)
		}
	})
}

func TestPromise70StripColumn(t *testing.T) {
	eachStrip(func(a []int, k int) {
		all, ok := impl.StripColumn(a, k)
		checkLists(t, "StripColumn", []any{a, k}, all, ok, wantStrips("StripColumn", a, k), true)
		rows, okr := impl.StripRow(turned(t, a), k)
		if !okr || len(rows) != len(all) {
			t.Errorf("StripColumn of %v and %d is %v, StripRow of it turned %v, %v", a, k, all, rows, okr)
		}
		for _, b := range all {
			turn := turned(t, b)
			if !slices.ContainsFunc(rows, func(c []int) bool { return slices.Equal(c, turn) }) {
				t.Errorf("StripColumn of %v and %d has %v, StripRow of it turned has not %v", a, k, b, turn)
			}
		}
	})
}

// TestStripsKnown holds strips that are written out.
func TestStripsKnown(t *testing.T) {
	for _, c := range []struct {
		name string
		a    []int
		k    int
		want [][]int
	}{
		{"StripRow", []int{1}, 2, [][]int{{3}, {2, 1}}}, {"StripColumn", []int{1}, 2, [][]int{{2, 1}, {1, 1, 1}}},
		{"StripRow", []int{2, 1}, 2, [][]int{{4, 1}, {3, 2}, {3, 1, 1}, {2, 2, 1}}},
		{"StripColumn", []int{2, 1}, 2, [][]int{{3, 2}, {3, 1, 1}, {2, 2, 1}, {2, 1, 1, 1}}},
		{"StripRow", []int{2, 1}, 3, [][]int{{5, 1}, {4, 2}, {4, 1, 1}, {3, 2, 1}}},
		{"StripColumn", []int{2, 1}, 3, [][]int{{3, 2, 1}, {3, 1, 1, 1}, {2, 2, 1, 1}, {2, 1, 1, 1, 1}}},
		{"StripRow", []int{3}, 3, [][]int{{6}, {5, 1}, {4, 2}, {3, 3}}}, {"StripColumn", []int{3}, 3, [][]int{{4, 1, 1}, {3, 1, 1, 1}}},
		{"StripRow", []int{1, 1, 1}, 3, [][]int{{4, 1, 1}, {3, 1, 1, 1}}},
		{"StripColumn", []int{1, 1, 1}, 3, [][]int{{2, 2, 2}, {2, 2, 1, 1}, {2, 1, 1, 1, 1}, {1, 1, 1, 1, 1, 1}}},
		{"StripRow", []int{2, 2}, 2, [][]int{{4, 2}, {3, 2, 1}, {2, 2, 2}}}, {"StripColumn", []int{2, 2}, 2, [][]int{{3, 3}, {3, 2, 1}, {2, 2, 1, 1}}},
		{"StripRow", []int{5}, 1, [][]int{{6}, {5, 1}}}, {"StripColumn", []int{5}, 1, [][]int{{6}, {5, 1}}},
		{"StripRow", []int{3, 2}, 1, [][]int{{4, 2}, {3, 3}, {3, 2, 1}}}, {"StripColumn", ones(5), 1, [][]int{{2, 1, 1, 1, 1}, ones(6)}},
		{"StripRow", nil, 6, [][]int{{6}}}, {"StripColumn", nil, 6, [][]int{ones(6)}}, {"StripRow", []int{}, 1, [][]int{{1}}},
	} {
		all, ok := ofStrip()[c.name](c.a, c.k)
		checkLists(t, c.name, []any{c.a, c.k}, all, ok, c.want, true)
	}
}

// TestStripsOfNoCells: with no cells to put each share stays as it is, one of degree 6 too, and so does a diagram sum times that of the empty share.
func TestStripsOfNoCells(t *testing.T) {
	eachShare(func(_ int, a []int) {
		for name, put := range ofStrip() {
			all, ok := put(a, 0)
			checkLists(t, name+" of no cells", a, all, ok, [][]int{a}, true)
		}
		f, ok := impl.ProductRow(a, 0)
		checkSum(t, "ProductRow of no cells", a, f, ok, shareSum("s", a), true)
		for _, empty := range [][]int{nil, {}} {
			f, ok = impl.ProductSum(a, empty)
			checkSum(t, "ProductSum with the empty share", a, f, ok, shareSum("s", a), true)
			f, ok = impl.ProductSum(empty, a)
			checkSum(t, "ProductSum of the empty share", a, f, ok, shareSum("s", a), true)
		}
	})
	for _, empty := range [][]int{nil, {}} {
		for name, put := range ofStrip() {
			all, ok := put(empty, 0)
			checkLists(t, name+" of no cells", empty, all, ok, [][]int{{}}, true)
		}
		f, ok := impl.ProductRow(empty, 0)
		checkSum(t, "ProductRow of no cells", empty, f, ok, impl.Sum{Way: "s", Degree: 0, Coefs: []int{1}}, true)
	}
}

// TestStripsOfEmptyShare: a strip alone is one part, or as many parts as it has cells.
func TestStripsOfEmptyShare(t *testing.T) {
	for k := 1; k <= 6; k++ {
		for _, empty := range [][]int{nil, {}} {
			all, ok := impl.StripRow(empty, k)
			checkLists(t, "StripRow of the empty share", k, all, ok, [][]int{{k}}, true)
			all, ok = impl.StripColumn(empty, k)
			checkLists(t, "StripColumn of the empty share", k, all, ok, [][]int{ones(k)}, true)
			f, ok := impl.ProductRow(empty, k)
			checkSum(t, "ProductRow of the empty share", k, f, ok, shareSum("s", []int{k}), true)
		}
	}
}

// TestStripsOfOneCell: one cell makes a row strip as well as a column strip, and taking it off leads back.
func TestStripsOfOneCell(t *testing.T) {
	eachShare(func(d int, a []int) {
		if d == 6 {
			return
		}
		rows, okr := impl.StripRow(a, 1)
		columns, okc := impl.StripColumn(a, 1)
		checkLists(t, "StripColumn of one cell", a, columns, okc, rows, okr)
		for _, b := range rows {
			lower, _ := impl.ShareLower(b)
			if !slices.ContainsFunc(lower, func(c []int) bool { return slices.Equal(c, a) }) {
				t.Errorf("StripRow of %v and one cell has %v", a, b)
			}
		}
		if !okr || len(rows) == 0 {
			t.Errorf("StripRow of %v and one cell is %v, %v", a, rows, okr)
		}
	})
}

// TestStripsBeyond: a result is of the degree 6 at most.
func TestStripsBeyond(t *testing.T) {
	eachShare(func(d int, a []int) {
		for k := 0; k <= 6; k++ {
			_, wanted := impl.ShareAll(d + k)
			for name, put := range ofStrip() {
				all, ok := put(a, k)
				if ok != wanted || (len(all) != 0) != wanted {
					t.Errorf("%s of %v and %d is %v, %v", name, a, k, all, ok)
				}
			}
			f, ok := impl.ProductRow(a, k)
			if ok != wanted || wanted && f.Degree != d+k || !wanted && !sameSum(f, impl.Sum{}) {
				t.Errorf("ProductRow of %v and %d is %v, %v", a, k, f, ok)
			}
		}
	})
}

func TestPromise71ProductNumber(t *testing.T) {
	none, one, more := 0, 0, 0
	eachTriple(func(a []int, b []int, c []int) {
		of := [][]int{a, b, c}
		want := countProductFillings(a, b, c)
		if want != numberIn(a, b, c) {
			t.Fatalf("%v has %d fillings, not %d", of, want, numberIn(a, b, c))
		}
		n, ok := impl.ProductNumber(a, b, c)
		checkNumber(t, "ProductNumber", of, n, ok, want, true)
		n, ok = impl.ProductNumber(b, a, c)
		checkNumber(t, "ProductNumber exchanged", of, n, ok, want, true)
		n, ok = impl.ProductNumber(turned(t, a), turned(t, b), turned(t, c))
		checkNumber(t, "ProductNumber turned", of, n, ok, want, true)
		switch want {
		case 0:
			none++
		case 1:
			one++
		default:
			more++
		}
	})
	if none < 100 || one < 100 || more == 0 {
		t.Errorf("%d product numbers are 0, %d are 1, and %d more", none, one, more)
	}
}

// TestProductNumberKnown holds product numbers that are written out.
func TestProductNumberKnown(t *testing.T) {
	for _, c := range []struct {
		a, b, c []int
		want    int
	}{
		{[]int{2, 1}, []int{2, 1}, []int{3, 2, 1}, 2}, {[]int{2, 1}, []int{2, 1}, []int{4, 2}, 1}, {[]int{2, 1}, []int{2, 1}, []int{4, 1, 1}, 1},
		{[]int{2, 1}, []int{2, 1}, []int{3, 3}, 1}, {[]int{2, 1}, []int{2, 1}, []int{2, 2, 2}, 1}, {[]int{2, 1}, []int{2, 1}, []int{3, 1, 1, 1}, 1},
		{[]int{2, 1}, []int{2, 1}, []int{2, 2, 1, 1}, 1}, {[]int{2, 1}, []int{2, 1}, []int{5, 1}, 0}, {[]int{2, 1}, []int{2, 1}, []int{2, 1, 1, 1, 1}, 0},
		{[]int{2, 2}, []int{2}, []int{3, 3}, 0}, {[]int{2, 2}, []int{1, 1}, []int{3, 3}, 1}, {[]int{3}, []int{3}, []int{4, 2}, 1}, {[]int{3}, []int{2, 1}, []int{4, 2}, 1},
		{[]int{3}, []int{2, 1}, []int{3, 2, 1}, 1}, {[]int{3}, []int{2, 1}, []int{3, 3}, 0}, {[]int{3}, []int{1, 1, 1}, []int{4, 1, 1}, 1},
		{[]int{3}, []int{1, 1, 1}, []int{3, 2, 1}, 0}, {[]int{1}, []int{3, 2}, []int{3, 2, 1}, 1}, {[]int{6}, nil, []int{6}, 1}, {nil, []int{6}, []int{6}, 1},
		{nil, []int{3, 2, 1}, []int{3, 2, 1}, 1}, {nil, []int{3, 2, 1}, []int{4, 1, 1}, 0}, {nil, nil, nil, 1}, {ones(3), ones(3), ones(6), 1}, {ones(6), []int{}, ones(6), 1},
	} {
		n, ok := impl.ProductNumber(c.a, c.b, c.c)
		checkNumber(t, "ProductNumber", [][]int{c.a, c.b, c.c}, n, ok, c.want, true)
	}
}

// TestProductNumberNotHeld: it is 0 where the third share does not hold the first one, or the second one.
func TestProductNumberNotHeld(t *testing.T) {
	first, second := 0, 0
	eachTriple(func(a []int, b []int, c []int) {
		if shareHolds(c, a) && shareHolds(c, b) {
			return
		}
		if !shareHolds(c, a) {
			first++
		} else {
			second++
		}
		n, ok := impl.ProductNumber(a, b, c)
		checkNumber(t, "ProductNumber", [][]int{a, b, c}, n, ok, 0, true)
	})
	if first < 100 || second < 30 {
		t.Errorf("%d shares do not hold the first one, %d others not the second one", first, second)
	}
}

// TestProductNumberDegrees: for all shares, whether one holds another one or not, degrees must add up.
func TestProductNumberDegrees(t *testing.T) {
	eachPair(func(a []int, b []int) {
		eachShare(func(d int, c []int) {
			if sum(a)+sum(b) != d {
				n, ok := impl.ProductNumber(a, b, c)
				checkNumber(t, "ProductNumber", [][]int{a, b, c}, n, ok, 0, false)
			}
		})
	})
}

func TestPromise72ProductSum(t *testing.T) {
	eachJoinable(func(a []int, b []int) {
		f, ok := impl.ProductSum(a, b)
		checkSum(t, "ProductSum", [][]int{a, b}, f, ok, wantProduct(a, b), true)
		if !impl.SumIn(f) {
			t.Fatalf("ProductSum of %v and %v is no sum: %v", a, b, f)
		}
		for i, c := range knownShares()[f.Degree] {
			n, okn := impl.ProductNumber(a, b, c)
			checkNumber(t, "ProductNumber", [][]int{a, b, c}, n, okn, f.Coefs[i], true)
		}
	})
}

// productPoints holds points of all lengths at which products and rests are compared.
func productPoints() [][]int {
	return [][]int{{1, -1, 2}, {1, 2, -1}, {}, {0}, {-3}, {2, 5}, {1, 1, 1, 1}, {3, 0, -2, 1, 4}, {-5, 5, 5, -5, 5}}
}

func TestPromise73ProductSumAt(t *testing.T) {
	eachJoinable(func(a []int, b []int) {
		f, _ := impl.ProductSum(a, b)
		for _, x := range productPoints() {
			first, oka := impl.AtDiagram(a, x)
			second, okb := impl.AtDiagram(b, x)
			if value := valueAt(t, f, x); !oka || !okb || value != first*second {
				t.Errorf("SumAt of ProductSum of %v and %v at %v is %d, not %d times %d", a, b, x, value, first, second)
			}
		}
	})
}

// TestProductSumBeyond: products are of the degree 6 at most.
func TestProductSumBeyond(t *testing.T) {
	beyond := 0
	eachPair(func(a []int, b []int) {
		if sum(a)+sum(b) <= 6 {
			return
		}
		beyond++
		f, ok := impl.ProductSum(a, b)
		checkSum(t, "ProductSum", [][]int{a, b}, f, ok, impl.Sum{}, false)
		n, ok := impl.ProductWays(a, b)
		checkNumber(t, "ProductWays", [][]int{a, b}, n, ok, 0, false)
	})
	if beyond < 500 {
		t.Errorf("%d products are beyond the degree 6", beyond)
	}
}

func TestPromise74ProductRow(t *testing.T) {
	eachStrip(func(a []int, k int) {
		row := []int{k}
		if k == 0 {
			row = nil
		}
		f, ok := impl.ProductRow(a, k)
		checkSum(t, "ProductRow", []any{a, k}, f, ok, wantProduct(a, row), true)
		g, okg := impl.ProductSum(a, row)
		checkSum(t, "ProductSum", [][]int{a, row}, g, okg, f, ok)
	})
}

// eachHeld visits all shares with those that they hold.
func eachHeld(visit func(c []int, a []int)) {
	eachPair(func(c []int, a []int) {
		if shareHolds(c, a) {
			visit(c, a)
		}
	})
}

// wantRest is what RestSum is to return.
func wantRest(c []int, a []int) impl.Sum {
	f := impl.Sum{Way: "s", Degree: sum(c) - sum(a)}
	for _, b := range knownShares()[f.Degree] {
		f.Coefs = append(f.Coefs, numberIn(a, b, c))
	}
	return f
}

func TestPromise75RestSum(t *testing.T) {
	eachHeld(func(c []int, a []int) {
		f, ok := impl.RestSum(c, a)
		checkSum(t, "RestSum", [][]int{c, a}, f, ok, wantRest(c, a), true)
		for _, x := range productPoints() {
			rest, okr := impl.DiagRest(c, a, x)
			if value := valueAt(t, f, x); !okr || value != rest {
				t.Errorf("SumAt of RestSum of %v and %v at %v is %d, DiagRest %d, %v", c, a, x, value, rest, okr)
			}
		}
	})
}

func TestPromise76RestSumInner(t *testing.T) {
	eachHeld(func(c []int, a []int) {
		f, _ := impl.RestSum(c, a)
		for _, b := range knownShares()[sum(c)-sum(a)] {
			rest, okr := impl.TurnInner(f, shareSum("s", b))
			product, okp := impl.ProductSum(a, b)
			n, okn := impl.TurnInner(shareSum("s", c), product)
			if !okr || !okp || !okn || rest != n {
				t.Errorf("TurnInner of RestSum of %v and %v and of %v is %d, %v, by ProductSum %d, %v, %v", c, a, b, rest, okr, n, okp, okn)
			}
		}
	})
}

// TestRestSumKnown holds sums that are written out.
func TestRestSumKnown(t *testing.T) {
	for _, c := range []struct {
		c, a []int
		want []int
	}{
		{[]int{3, 2, 1}, []int{2, 1}, []int{1, 2, 1}}, {[]int{2, 1}, []int{1}, []int{1, 1}}, {[]int{2, 2}, []int{1}, []int{0, 1, 0}},
		{[]int{2, 2}, []int{2}, []int{1, 0}}, {[]int{2, 2}, []int{1, 1}, []int{0, 1}}, {[]int{3, 3}, []int{2, 1}, []int{0, 1, 0}},
		{[]int{4, 2}, []int{2}, []int{1, 1, 1, 0, 0}}, {[]int{3, 2, 1}, []int{2}, []int{0, 1, 1, 1, 0}}, {[]int{6}, []int{6}, []int{1}},
		{nil, nil, []int{1}}, {[]int{}, []int{}, []int{1}}, {[]int{1}, nil, []int{1}}, {[]int{1, 1}, []int{}, []int{0, 1}},
	} {
		f, ok := impl.RestSum(c.c, c.a)
		checkSum(t, "RestSum", [][]int{c.c, c.a}, f, ok, impl.Sum{Way: "s", Degree: sum(c.c) - sum(c.a), Coefs: c.want}, true)
	}
}

// TestRestSumEnds: without the empty share all of a share is left, and without itself nothing is.
func TestRestSumEnds(t *testing.T) {
	eachShare(func(_ int, c []int) {
		f, ok := impl.RestSum(c, nil)
		checkSum(t, "RestSum without the empty share", c, f, ok, shareSum("s", c), true)
		f, ok = impl.RestSum(c, c)
		checkSum(t, "RestSum without itself", c, f, ok, impl.Sum{Way: "s", Degree: 0, Coefs: []int{1}}, true)
	})
}

// TestRestSumNotHeld: there is no rest of a share that is not held, of the same degree, of less or of more.
func TestRestSumNotHeld(t *testing.T) {
	degrees := map[bool]int{}
	eachPair(func(c []int, a []int) {
		if !shareHolds(c, a) {
			degrees[sum(a) < sum(c)]++
			f, ok := impl.RestSum(c, a)
			checkSum(t, "RestSum", [][]int{c, a}, f, ok, impl.Sum{}, false)
		}
	})
	if degrees[true] < 50 || degrees[false] < 50 {
		t.Errorf("%d shares of less degree are not held, %d others", degrees[true], degrees[false])
	}
}

// countChoices counts the ways to choose so many of n numbers.
func countChoices(n int, chosen int) int {
	ways := 0
	for _, choice := range lists(n, 0, 1) {
		if sum(choice) == chosen {
			ways++
		}
	}
	return ways
}

func TestPromise77ProductWays(t *testing.T) {
	eachJoinable(func(a []int, b []int) {
		of := [][]int{a, b}
		want := countChoices(sum(a)+sum(b), sum(a)) * fillings(sum(a), a) * fillings(sum(b), b)
		n, ok := impl.ProductWays(a, b)
		checkNumber(t, "ProductWays", of, n, ok, want, true)
		f, okf := impl.ProductSum(a, b)
		total := 0
		for i, c := range knownShares()[sum(a)+sum(b)] {
			lists, okl := impl.ShareLists(c)
			if !okf || !okl {
				t.Fatalf("ProductSum of %v and %v: %v, ShareLists of %v: %v", a, b, okf, c, okl)
			}
			total += f.Coefs[i] * lists
		}
		checkNumber(t, "ProductWays by ProductSum", of, n, ok, total, true)
	})
}

func TestProductWaysKnown(t *testing.T) {
	for _, c := range []struct {
		a, b []int
		want int
	}{
		{nil, nil, 1}, {[]int{}, []int{6}, 1}, {[]int{3, 2, 1}, nil, 16}, {nil, []int{3, 2, 1}, 16}, {[]int{1}, []int{1}, 2}, {[]int{2, 1}, []int{2, 1}, 80},
		{[]int{2}, []int{2, 2}, 30}, {[]int{3, 2}, []int{1}, 30}, {[]int{1}, []int{3, 1, 1}, 36}, {[]int{3}, ones(3), 20}, {[]int{4}, []int{2}, 15}, {[]int{1}, []int{2, 1}, 8},
	} {
		n, ok := impl.ProductWays(c.a, c.b)
		checkNumber(t, "ProductWays", [][]int{c.a, c.b}, n, ok, c.want, true)
	}
}

// TestStripsOfOtherNumbers: neither numbers of cells below 0 or beyond DegreeMax will do, nor such as run over when they are added up.
func TestStripsOfOtherNumbers(t *testing.T) {
	numbers := append([]int{math.MaxInt - 1, math.MaxInt - 5, math.MaxInt - 6, math.MinInt + 1, math.MinInt + 6, -3, -4, -5, -6, -7, math.MinInt32, 1<<62 + 3}, outside...)
	for _, k := range numbers {
		eachShare(func(_ int, a []int) {
			checkNoStrips(t, a, k)
		})
		for _, a := range noShares() {
			checkNoStrips(t, a, k)
		}
	}
}

// checkNoStrips fails the test if something is told of a list and a number that will not do.
func checkNoStrips(t *testing.T, a []int, k int) {
	t.Helper()
	of := []any{a[:min(len(a), 10)], k}
	for name, put := range ofStrip() {
		all, ok := put(a, k)
		checkLists(t, name, of, all, ok, nil, false)
	}
	f, ok := impl.ProductRow(a, k)
	checkSum(t, "ProductRow", of, f, ok, impl.Sum{}, false)
}

func TestStripsOfNoShares(t *testing.T) {
	for _, a := range noShares() {
		for k := 0; k <= 6; k++ {
			checkNoStrips(t, a, k)
		}
	}
}

func TestProductsOfNoShares(t *testing.T) {
	others := [][]int{nil, {1}, {2, 1}, {6}, ones(6), {0}, {7}, {math.MaxInt}, {math.MinInt}}
	for _, a := range noShares() {
		for _, b := range append(others, a) {
			of := [][]int{a[:min(len(a), 10)], b[:min(len(b), 10)]}
			for name, tell := range ofTwoShares() {
				f, ok := tell(a, b)
				checkSum(t, name, of, f, ok, impl.Sum{}, false)
				f, ok = tell(b, a)
				checkSum(t, name+" exchanged", of, f, ok, impl.Sum{}, false)
			}
			n, ok := impl.ProductWays(a, b)
			checkNumber(t, "ProductWays", of, n, ok, 0, false)
			n, ok = impl.ProductWays(b, a)
			checkNumber(t, "ProductWays exchanged", of, n, ok, 0, false)
			for _, c := range append(others, a) {
				for _, three := range [][3][]int{{a, b, c}, {b, a, c}, {b, c, a}} {
					n, ok = impl.ProductNumber(three[0], three[1], three[2])
					checkNumber(t, "ProductNumber", of, n, ok, 0, false)
				}
			}
		}
	}
}

// TestProductNumberOfNoShares has lists that are no shares with numbers that add up as degrees are to.
func TestProductNumberOfNoShares(t *testing.T) {
	for _, three := range [][3][]int{
		{{1, 2}, {1}, {2, 2}}, {{1}, {1, 2}, {2, 2}}, {{1}, {2, 1}, {1, 3}}, {{2, 0}, {1}, {2, 1}}, {{2}, {1, 0}, {2, 1}}, {{2}, {1}, {2, 1, 0}},
		{{0}, {1}, {1}}, {{1}, {0}, {1}}, {{0}, {0}, {0}}, {{0}, nil, nil}, {nil, {0}, nil}, {nil, nil, {0}}, {{3, -1}, {1}, {2, 1}}, {{7}, nil, {7}}, {nil, {7}, {7}},
		{{4}, {3}, {4, 3}}, {{6}, {1}, {6, 1}}, {ones(6), {1}, ones(7)}, {{-1}, {2}, {1}}, {{7, -1}, nil, {6}}, {{6}, {-1}, {5}}, {{7}, {-1}, {6}},
		{{math.MaxInt}, {math.MinInt}, {-1}}, {{math.MaxInt}, {1}, {math.MinInt}}, {{math.MinInt}, {math.MinInt}, nil}, {nil, {math.MaxInt}, {math.MaxInt}},
	} {
		n, ok := impl.ProductNumber(three[0], three[1], three[2])
		checkNumber(t, "ProductNumber", three, n, ok, 0, false)
	}
}

// TestProductsMemory: arguments stay as they are, and no result shares memory with them, with another one or with itself.
func TestProductsMemory(t *testing.T) {
	eachPair(func(a []int, b []int) {
		c, d := spaced(a), spaced(b)
		for _, tell := range ofTwoShares() {
			if first, ok := tell(c, d); ok {
				again, _ := tell(c, d)
				apart(t, "a function of products", first.Coefs, again.Coefs, c, d)
			}
		}
		impl.ProductNumber(c, d, spaced(a))
		impl.ProductNumber(c, nil, c)
		impl.ProductNumber(c, c, d)
		impl.ProductWays(c, d)
		impl.ProductWays(c, c)
		unspoilt(t, "a function of products", c, a)
		unspoilt(t, "a function of products", d, b)
	})
	eachTriple(func(a []int, b []int, c []int) {
		x, y, z := spaced(a), spaced(b), spaced(c)
		first, _ := impl.ProductNumber(x, y, z)
		again, _ := impl.ProductNumber(x, y, z)
		if first != again {
			t.Errorf("ProductNumber of %v is %d, and then %d", [][]int{a, b, c}, first, again)
		}
		unspoilt(t, "ProductNumber", x, a)
		unspoilt(t, "ProductNumber", y, b)
		unspoilt(t, "ProductNumber", z, c)
	})
}

func TestStripsMemory(t *testing.T) {
	eachStrip(func(a []int, k int) {
		b := spaced(a)
		for name, put := range ofStrip() {
			first, _ := put(b, k)
			second, _ := put(b, k)
			apart(t, name, append(slices.Concat(first, second), b)...)
			for i := range first {
				scribble(first[i])
				first[i] = nil
			}
			third, ok := put(b, k)
			checkLists(t, name+" again", []any{a, k}, third, ok, second, true)
			checkLists(t, name, []any{a, k}, second, true, wantStrips(name, a, k), true)
		}
		f, _ := impl.ProductRow(b, k)
		g, _ := impl.ProductRow(b, k)
		apart(t, "ProductRow", f.Coefs, g.Coefs, b)
		unspoilt(t, "a function of strips", b, a)
	})
}

// TestProductsAtOnce asks at once: what one call finds does not show in another one.
func TestProductsAtOnce(t *testing.T) {
	var calls sync.WaitGroup
	eachJoinable(func(a []int, b []int) {
		want := wantProduct(a, b)
		calls.Add(1)
		go func() {
			defer calls.Done()
			f, ok := impl.ProductSum(a, b)
			checkSum(t, "ProductSum", [][]int{a, b}, f, ok, want, true)
			for i, c := range knownShares()[want.Degree] {
				n, ok := impl.ProductNumber(a, b, c)
				checkNumber(t, "ProductNumber", [][]int{a, b, c}, n, ok, want.Coefs[i], true)
			}
			all, ok := impl.StripColumn(a, sum(b))
			checkLists(t, "StripColumn", [][]int{a, b}, all, ok, wantStrips("StripColumn", a, sum(b)), true)
		}()
	})
	calls.Wait()
}
