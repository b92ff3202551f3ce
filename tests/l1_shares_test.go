package tests

import (
	"math"
	"slices"
	"testing"

	"loop.example/symmetricsums/impl"
)

// knownShares holds all shares by degree, in order, written out.
func knownShares() [][][]int {
	return [][][]int{
		{{}},
		{{1}},
		{{2}, {1, 1}},
		{{3}, {2, 1}, {1, 1, 1}},
		{{4}, {3, 1}, {2, 2}, {2, 1, 1}, {1, 1, 1, 1}},
		{{5}, {4, 1}, {3, 2}, {3, 1, 1}, {2, 2, 1}, {2, 1, 1, 1}, {1, 1, 1, 1, 1}},
		{{6}, {5, 1}, {4, 2}, {4, 1, 1}, {3, 3}, {3, 2, 1}, {3, 1, 1, 1}, {2, 2, 2}, {2, 2, 1, 1}, {2, 1, 1, 1, 1}, {1, 1, 1, 1, 1, 1}},
	}
}

func eachShare(visit func(d int, a []int)) {
	for d, all := range knownShares() {
		for _, a := range all {
			visit(d, a)
		}
	}
}

func eachPair(visit func(a []int, b []int)) {
	eachShare(func(_ int, a []int) {
		eachShare(func(_ int, b []int) { visit(a, b) })
	})
}

// noShares holds lists that are no shares.
func noShares() [][]int {
	long := make([]int, 100000)
	for i := range long {
		long[i] = 1
	}
	return [][]int{
		{0}, {-1}, {1, 0}, {2, 1, 0}, {0, 0}, {3, -1}, {-1, -1}, {7, -1}, {1, 1, 0, 1},
		{1, 2}, {2, 1, 2}, {3, 1, 2}, {1, 5}, {0, 1},
		{7}, {6, 1}, {4, 3}, {3, 3, 1}, {3, 2, 2}, {2, 2, 2, 1}, {1, 1, 1, 1, 1, 1, 1}, {8}, {13}, {70},
		{math.MaxInt}, {math.MinInt}, {math.MaxInt, math.MaxInt}, {math.MinInt, math.MinInt},
		{math.MaxInt, math.MaxInt, 2}, {math.MaxInt, math.MaxInt, 2, 2}, {math.MaxInt, 1}, {math.MaxInt, math.MinInt},
		{math.MaxInt, math.MaxInt, 3, 1}, {1, math.MaxInt}, {math.MaxInt, math.MinInt, 5}, {6, math.MaxInt, math.MinInt + 1},
		{1 << 32}, {1<<32 + 1}, {1<<62 + 1, 1<<62 + 1, 1 << 62, 1 << 62}, {math.MaxInt32},
		long, make([]int, 100000), append(slices.Clone(long), 6), append([]int{6}, long...),
	}
}

// cellGrid marks the cells of a share.
func cellGrid(a []int) (grid [8][8]bool) {
	for i, part := range a {
		for j := range part {
			grid[i][j] = true
		}
	}
	return grid
}

// cycleShare returns the lengths of the cycles of an order of the numbers from 1 on.
func cycleShare(order []int) []int {
	seen := make([]bool, len(order))
	a := []int{}
	for i := range order {
		n := 0
		for k := i; !seen[k]; k = order[k] - 1 {
			seen[k] = true
			n++
		}
		if n > 0 {
			a = append(a, n)
		}
	}
	slices.SortFunc(a, func(x int, y int) int { return y - x })
	return a
}

// byCycles counts the orders of 1 to d whose cycles have the parts of a share as lengths.
func byCycles(d int, a []int) int {
	n := 0
	for _, order := range orders(d) {
		if slices.Equal(cycleShare(order), a) {
			n++
		}
	}
	return n
}

// evenOrder reports whether an order comes by an even number of exchanges.
func evenOrder(order []int) bool {
	even := true
	for i := range order {
		for k := range i {
			if order[k] > order[i] {
				even = !even
			}
		}
	}
	return even
}

// fillings counts the orders of 1 to the degree that grow along the parts of a share and from part to part.
func fillings(d int, a []int) int {
	n := 0
	for _, order := range orders(d) {
		var ahead []int
		good := true
		for _, part := range a {
			row := order[:part]
			order = order[part:]
			for j := range row {
				if j > 0 && row[j-1] >= row[j] || ahead != nil && ahead[j] >= row[j] {
					good = false
				}
			}
			ahead = row
		}
		if good {
			n++
		}
	}
	return n
}

// naiveShare reports whether a list of small numbers is a share, straight from the definition.
func naiveShare(a []int) bool {
	for i, x := range a {
		if x <= 0 || i > 0 && x > a[i-1] {
			return false
		}
	}
	return sum(a) <= 6
}

func TestDegreeMax(t *testing.T) {
	if impl.DegreeMax != 6 {
		t.Errorf("DegreeMax is %d", impl.DegreeMax)
	}
}

func TestShareIn(t *testing.T) {
	eachShare(func(_ int, a []int) {
		if !impl.ShareIn(a) {
			t.Errorf("%v is no share", a)
		}
	})
	if !impl.ShareIn(nil) {
		t.Error("the nil list is no share")
	}
	for _, a := range noShares() {
		if impl.ShareIn(a) {
			t.Errorf("a list of %d numbers is a share: %v", len(a), a[:min(len(a), 10)])
		}
	}
	for n := range 5 {
		for _, a := range lists(n, -1, 8) {
			if impl.ShareIn(a) != naiveShare(a) {
				t.Errorf("ShareIn of %v", a)
			}
		}
	}
	for n := 5; n < 9; n++ {
		for _, a := range lists(n, 0, 2) {
			if impl.ShareIn(a) != naiveShare(a) {
				t.Errorf("ShareIn of %v", a)
			}
		}
	}
}

func TestPromise1(t *testing.T) {
	eachShare(func(_ int, a []int) {
		if len(a) == 0 {
			return
		}
		x, ok := impl.ShareTurn(a)
		if !impl.ShareIn(a) || !impl.ShareIn(a[:len(a)-1]) || !ok || !impl.ShareIn(x) {
			t.Errorf("ShareIn without the last part of %v or of %v", a, x)
		}
	})
}

func TestPromise2ShareAll(t *testing.T) {
	for d, want := range knownShares() {
		all, ok := impl.ShareAll(d)
		if !ok || !sameLists(all, want) {
			t.Errorf("ShareAll of %d is %v, %v", d, all, ok)
		}
		for i, a := range all {
			place, ok := impl.SharePlace(a)
			if !ok || place != i || sum(a) != d {
				t.Errorf("SharePlace of %v is %d, %v", a, place, ok)
			}
			if i > 0 && slices.Compare(all[i-1], a) <= 0 {
				t.Errorf("%v is ahead of %v", all[i-1], a)
			}
		}
	}
	for _, d := range []int{-1, 7, -2, 8, -6, 100, math.MaxInt, math.MinInt} {
		if all, ok := impl.ShareAll(d); ok || len(all) != 0 {
			t.Errorf("ShareAll of %d is %v, %v", d, all, ok)
		}
	}
}

func TestPromise3SharePlace(t *testing.T) {
	eachShare(func(d int, a []int) {
		place, ok := impl.SharePlace(a)
		if want := slices.IndexFunc(knownShares()[d], func(b []int) bool { return slices.Equal(a, b) }); !ok || place != want {
			t.Fatalf("SharePlace of %v is %d, %v", a, place, ok)
		}
		all, ok := impl.ShareAll(d)
		if !ok || place >= len(all) || !slices.Equal(all[place], a) {
			t.Errorf("ShareAll of %d has not %v at %d", d, a, place)
		}
	})
}

func TestPromise4ShareTurn(t *testing.T) {
	eachShare(func(_ int, a []int) {
		x, ok := impl.ShareTurn(a)
		back, okback := impl.ShareTurn(x)
		if !ok || !okback || !slices.Equal(back, a) {
			t.Fatalf("ShareTurn of %v is %v, and back %v", a, x, back)
		}
		first := 0
		if len(a) > 0 {
			first = a[0]
		}
		grid, turned := cellGrid(a), cellGrid(x)
		for i := range grid {
			for j := range grid {
				if grid[i][j] != turned[j][i] {
					t.Errorf("ShareTurn of %v is %v", a, x)
				}
			}
		}
		if len(x) != first {
			t.Errorf("ShareTurn of %v has %d parts", a, len(x))
		}
	})
}

func TestPromise5ShareAbove(t *testing.T) {
	eachPair(func(a []int, b []int) {
		want := sum(a) == sum(b)
		for k := 1; k <= 6; k++ {
			want = want && sum(a[:min(k, len(a))]) >= sum(b[:min(k, len(b))])
		}
		if impl.ShareAbove(a, b) != want {
			t.Fatalf("ShareAbove of %v and %v is not %v", a, b, want)
		}
		x, _ := impl.ShareTurn(a)
		y, _ := impl.ShareTurn(b)
		if impl.ShareAbove(y, x) != want {
			t.Errorf("ShareAbove of %v and %v turned", b, a)
		}
		if want && impl.ShareAbove(b, a) != slices.Equal(a, b) {
			t.Errorf("ShareAbove of %v and %v both ways", a, b)
		}
		i, _ := impl.SharePlace(a)
		k, _ := impl.SharePlace(b)
		if want && i > k {
			t.Errorf("%v is above %v and behind it", a, b)
		}
	})
}

func TestShareAboveInvalid(t *testing.T) {
	for _, a := range noShares() {
		eachShare(func(_ int, b []int) {
			if impl.ShareAbove(a, b) || impl.ShareAbove(b, a) {
				t.Errorf("ShareAbove of no share and %v", b)
			}
		})
		if impl.ShareAbove(a, a) {
			t.Errorf("ShareAbove of no share and itself: %v", a[:min(len(a), 10)])
		}
	}
	if !impl.ShareAbove(nil, []int{}) || impl.ShareAbove(nil, []int{1}) || impl.ShareAbove([]int{1}, nil) {
		t.Error("ShareAbove of the empty share")
	}
	if impl.ShareAbove([]int{3, 3}, []int{4, 1, 1}) || impl.ShareAbove([]int{4, 1, 1}, []int{3, 3}) {
		t.Error("one of 33 and 411 is above the other one")
	}
}

func TestPromise6ShareJoin(t *testing.T) {
	eachPair(func(a []int, b []int) {
		c, ok := impl.ShareJoin(a, b)
		d, okback := impl.ShareJoin(b, a)
		if sum(a)+sum(b) > 6 {
			if ok || okback || len(c) != 0 || len(d) != 0 {
				t.Errorf("ShareJoin of %v and %v is %v", a, b, c)
			}
			return
		}
		want := append(slices.Clone(a), b...)
		slices.SortFunc(want, func(x int, y int) int { return y - x })
		if !ok || !okback || !slices.Equal(c, want) || !slices.Equal(d, want) {
			t.Fatalf("ShareJoin of %v and %v is %v, and exchanged %v", a, b, c, d)
		}
		x, _ := impl.ShareTurn(a)
		y, _ := impl.ShareTurn(b)
		z, _ := impl.ShareTurn(c)
		if len(z) != max(len(x), len(y)) {
			t.Fatalf("ShareJoin of %v and %v turned is %v", a, b, z)
		}
		for i := range z {
			both := 0
			if i < len(x) {
				both += x[i]
			}
			if i < len(y) {
				both += y[i]
			}
			if z[i] != both {
				t.Errorf("ShareJoin of %v and %v turned is %v", a, b, z)
			}
		}
	})
}

func TestShareJoinInvalid(t *testing.T) {
	for _, a := range noShares() {
		for _, b := range [][]int{{}, nil, {1}, {2, 1}, {6}, {0}, {math.MaxInt}, a} {
			if c, ok := impl.ShareJoin(a, b); ok || len(c) != 0 {
				t.Errorf("ShareJoin of no share and %v is %v", b[:min(len(b), 10)], c)
			}
			if c, ok := impl.ShareJoin(b, a); ok || len(c) != 0 {
				t.Errorf("ShareJoin of %v and no share is %v", b[:min(len(b), 10)], c)
			}
		}
	}
}

func TestPromise7ShareTimes(t *testing.T) {
	for d, all := range knownShares() {
		quotients := 0
		for _, a := range all {
			n, ok := impl.ShareTimes(a)
			if !ok || n <= 0 || factorial(d)%n != 0 {
				t.Fatalf("ShareTimes of %v is %d, %v", a, n, ok)
			}
			if factorial(d)/n != byCycles(d, a) {
				t.Errorf("ShareTimes of %v is %d", a, n)
			}
			quotients += factorial(d) / n
		}
		if quotients != factorial(d) {
			t.Errorf("the quotients of degree %d add up to %d", d, quotients)
		}
	}
}

func TestPromise8ShareOrders(t *testing.T) {
	for d, all := range knownShares() {
		total := 0
		for _, a := range all {
			n, ok := impl.ShareOrders(a)
			want := 0
			for _, b := range lists(len(a), 1, 6) {
				slices.SortFunc(b, func(x int, y int) int { return y - x })
				if slices.Equal(a, b) {
					want++
				}
			}
			if !ok || n != want {
				t.Errorf("ShareOrders of %v is %d, %v, not %d", a, n, ok, want)
			}
			total += n
		}
		if want := max(1, 1<<d/2); total != want {
			t.Errorf("ShareOrders of degree %d add up to %d", d, total)
		}
	}
}

func TestPromise9ShareSign(t *testing.T) {
	for d := range 7 {
		for _, order := range orders(d) {
			n, ok := impl.ShareSign(cycleShare(order))
			if !ok || n*n != 1 || n == 1 != evenOrder(order) {
				t.Errorf("ShareSign of %v is %d, %v", cycleShare(order), n, ok)
			}
		}
	}
	told := 0
	eachShare(func(_ int, a []int) {
		c, ok := impl.ShareJoin(a, a)
		if !ok {
			return
		}
		told++
		if n, ok := impl.ShareSign(c); !ok || n != 1 {
			t.Errorf("ShareSign of %v is %d, %v", c, n, ok)
		}
	})
	if told != 7 {
		t.Errorf("ShareJoin of %d shares and themselves is told", told)
	}
}

func TestPromise10ShareCells(t *testing.T) {
	eachShare(func(d int, a []int) {
		cells, ok := impl.ShareCells(a)
		grid := cellGrid(a)
		want := []int{}
		for i, part := range a {
			for j := range part {
				n := 1
				for k := j + 1; grid[i][k]; k++ {
					n++
				}
				for k := i + 1; grid[k][j]; k++ {
					n++
				}
				want = append(want, n)
			}
		}
		if !ok || len(cells) != d || !slices.Equal(cells, want) {
			t.Errorf("ShareCells of %v is %v, %v", a, cells, ok)
		}
		product := 1
		for _, n := range cells {
			product *= n
		}
		if n, ok := impl.ShareLists(a); !ok || product*n != factorial(d) {
			t.Errorf("ShareLists of %v is %d, the product of ShareCells %d", a, n, product)
		}
	})
	if cells, ok := impl.ShareCells([]int{3, 2}); !ok || !slices.Equal(cells, []int{4, 3, 1, 2, 1}) {
		t.Errorf("ShareCells of 3 2 is %v, %v", cells, ok)
	}
}

func TestPromise11ShareLists(t *testing.T) {
	for d, all := range knownShares() {
		squares := 0
		for _, a := range all {
			n, ok := impl.ShareLists(a)
			if want := fillings(d, a); !ok || n != want {
				t.Errorf("ShareLists of %v is %d, %v, not %d", a, n, ok, want)
			}
			x, _ := impl.ShareTurn(a)
			if m, ok := impl.ShareLists(x); !ok || m != n {
				t.Errorf("ShareLists of %v is %d, that of %v is %d", a, n, x, m)
			}
			squares += n * n
		}
		if squares != factorial(d) {
			t.Errorf("the squares of ShareLists of degree %d add up to %d", d, squares)
		}
	}
}

func TestPromise12ShareLower(t *testing.T) {
	eachShare(func(d int, a []int) {
		all, ok := impl.ShareLower(a)
		want := [][]int{}
		if d > 0 {
			for _, b := range knownShares()[d-1] {
				grid, less := cellGrid(a), cellGrid(b)
				inside := true
				for i := range grid {
					for j := range grid {
						inside = inside && (grid[i][j] || !less[i][j])
					}
				}
				if inside {
					want = append(want, b)
				}
			}
		}
		if !ok || !sameLists(all, want) {
			t.Fatalf("ShareLower of %v is %v, %v", a, all, ok)
		}
		total := 0
		for _, b := range all {
			n, _ := impl.ShareLists(b)
			total += n
		}
		if n, _ := impl.ShareLists(a); d > 0 && total != n {
			t.Errorf("ShareLists of %v is %d, those of ShareLower add up to %d", a, n, total)
		}
	})
	if all, ok := impl.ShareLower(nil); !ok || len(all) != 0 {
		t.Errorf("ShareLower of the empty share is %v, %v", all, ok)
	}
}

func TestEmptyShare(t *testing.T) {
	for _, a := range [][]int{nil, {}} {
		place, ok := impl.SharePlace(a)
		x, okx := impl.ShareTurn(a)
		if !ok || place != 0 || !okx || len(x) != 0 || !impl.ShareAbove(a, a) {
			t.Error("place, turned share or order of the empty share")
		}
		c, okc := impl.ShareJoin(a, a)
		d, okd := impl.ShareJoin(a, []int{6})
		if !okc || len(c) != 0 || !okd || !slices.Equal(d, []int{6}) {
			t.Error("joins of the empty share")
		}
		cells, ok := impl.ShareCells(a)
		if !ok || len(cells) != 0 {
			t.Errorf("ShareCells of the empty share is %v, %v", cells, ok)
		}
		for i, f := range []func([]int) (int, bool){impl.ShareTimes, impl.ShareOrders, impl.ShareSign, impl.ShareLists} {
			if n, ok := f(a); !ok || n != 1 {
				t.Errorf("function %d of the empty share is %d, %v", i, n, ok)
			}
		}
	}
	if all, ok := impl.ShareAll(0); !ok || len(all) != 1 || len(all[0]) != 0 {
		t.Errorf("ShareAll of 0 is %v, %v", all, ok)
	}
}

func TestInvalidShares(t *testing.T) {
	numbers := []func([]int) (int, bool){impl.SharePlace, impl.ShareTimes, impl.ShareOrders, impl.ShareSign, impl.ShareLists}
	for _, a := range noShares() {
		for i, f := range numbers {
			if n, ok := f(a); ok || n != 0 {
				t.Errorf("function %d of no share %v is %d, %v", i, a[:min(len(a), 10)], n, ok)
			}
		}
		for i, f := range []func([]int) ([]int, bool){impl.ShareTurn, impl.ShareCells} {
			if x, ok := f(a); ok || len(x) != 0 {
				t.Errorf("list function %d of no share %v is %v, %v", i, a[:min(len(a), 10)], x, ok)
			}
		}
		if all, ok := impl.ShareLower(a); ok || len(all) != 0 {
			t.Errorf("ShareLower of no share %v is %v, %v", a[:min(len(a), 10)], all, ok)
		}
	}
}

// fromShare holds all that makes lists of one share.
func fromShare(a []int) [][]int {
	x, _ := impl.ShareTurn(a)
	c, _ := impl.ShareCells(a)
	l, _ := impl.ShareLower(a)
	return append(l, x, c)
}

func TestShareMemory(t *testing.T) {
	eachShare(func(_ int, a []int) {
		b := spaced(a)
		all := fromShare(b)
		impl.ShareIn(b)
		impl.SharePlace(b)
		impl.ShareTimes(b)
		impl.ShareOrders(b)
		impl.ShareSign(b)
		impl.ShareLists(b)
		unspoilt(t, "a function of one share", b, a)
		apart(t, "a function of one share", append(all, b)...)
	})
	eachPair(func(a []int, b []int) {
		x, y := spaced(a), spaced(b)
		c, ok := impl.ShareJoin(x, y)
		impl.ShareAbove(x, y)
		unspoilt(t, "ShareJoin or ShareAbove", x, a)
		unspoilt(t, "ShareJoin or ShareAbove", y, b)
		if ok {
			apart(t, "ShareJoin", c, x, y)
		}
	})
	for d := range 7 {
		all, _ := impl.ShareAll(d)
		again, _ := impl.ShareAll(d)
		apart(t, "ShareAll", append(all, again...)...)
		for _, a := range all {
			scribble(a)
		}
		if all, ok := impl.ShareAll(d); !ok || !sameLists(all, knownShares()[d]) {
			t.Errorf("ShareAll of %d after its results were changed is %v", d, all)
		}
	}
}
