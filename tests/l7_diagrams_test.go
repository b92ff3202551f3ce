package tests

import (
	"math"
	"slices"
	"sync"
	"testing"

	"loop.example/symmetricsums/impl"
)

// ofPoint holds all that takes a share and a point.
func ofPoint() map[string]func([]int, []int) (int, bool) {
	return map[string]func([]int, []int) (int, bool){
		"DiagFull": impl.DiagFull, "DiagChosen": impl.DiagChosen, "DiagQuotient": impl.DiagQuotient,
		"DiagPlain": impl.DiagPlain, "DiagPowers": impl.DiagPowers,
	}
}

// timesOf is how many times the diagram sum of a share is told.
func timesOf(name string, a []int) int {
	if name == "DiagPowers" {
		return factorial(sum(a))
	}
	return 1
}

// ofRest holds all that takes two shares and a point.
func ofRest() map[string]func([]int, []int, []int) (int, bool) {
	return map[string]func([]int, []int, []int) (int, bool){"DiagRest": impl.DiagRest, "DiagRestFull": impl.DiagRestFull}
}

// allDifferent reports whether no two numbers of a list are the same.
func allDifferent(x []int) bool {
	return len(slices.Compact(slices.Sorted(slices.Values(x)))) == len(x)
}

// diagramPoints holds points of n numbers: those of pointsOf and, for three to five numbers, ones of different numbers of all sizes.
func diagramPoints(n int) [][]int {
	all := pointsOf(n)
	if n <= 2 {
		return all
	}
	next := drawer(uint64(n))
	for len(all) < len(pointsOf(n))+60 {
		x := []int{}
		for range n {
			x = append(x, next(5))
		}
		if allDifferent(x) {
			all = append(all, x)
		}
	}
	for _, x := range [][]int{
		{5, 4, 3, 2, 1}, {1, 2, 3, 4, 5}, {-1, -2, -3, -4, -5}, {5, -5, 4, -4, 3}, {-5, 5, -4, 4, 0}, {0, 1, -1, 2, -2}, {3, 0, 5, -5, 1},
	} {
		all = append(all, x[:n])
	}
	return all
}

// eachDiagram visits all shares with points of all lengths, and the diagram sums there straight from the definition.
func eachDiagram(visit func(a []int, x []int, want int)) {
	for n := range 6 {
		points := diagramPoints(n)
		eachShare(func(_ int, a []int) {
			all := diagramTerms(n, a)
			for _, x := range points {
				visit(a, x, all.at(x))
			}
		})
	}
}

// checkDiagram compares what is told of a share at a point with AtDiagram.
func checkDiagram(t *testing.T, name string, a []int, x []int) {
	t.Helper()
	want, okw := impl.AtDiagram(a, x)
	got, ok := ofPoint()[name](a, x)
	checkNumber(t, name, [][]int{a, x}, got, ok, want*timesOf(name, a), okw)
	if !okw {
		t.Errorf("AtDiagram of %v at %v fails", a, x)
	}
}

// checkRoad compares what is told of all shares with AtDiagram and with the definition.
func checkRoad(t *testing.T, name string) {
	t.Helper()
	ask := ofPoint()[name]
	eachDiagram(func(a []int, x []int, want int) {
		value, ok := ask(a, x)
		checkNumber(t, name, [][]int{a, x}, value, ok, want*timesOf(name, a), true)
		checkDiagram(t, name, a, x)
	})
}

func TestPromise60DiagFull(t *testing.T) {
	checkRoad(t, "DiagFull")
}

func TestPromise61DiagChosen(t *testing.T) {
	checkRoad(t, "DiagChosen")
	eachPoint(func(x []int) {
		eachShare(func(_ int, a []int) {
			value, ok := impl.DiagChosen(a, x)
			want, okw := impl.DiagFull(a, x)
			checkNumber(t, "DiagChosen", [][]int{a, x}, value, ok, want, okw)
		})
	})
}

// TestPromise62DiagQuotient: it fails just for points with two numbers that are the same, whatever the share.
func TestPromise62DiagQuotient(t *testing.T) {
	different, same, fewer := 0, 0, 0
	eachDiagram(func(a []int, x []int, want int) {
		value, ok := impl.DiagQuotient(a, x)
		if !allDifferent(x) {
			same++
			checkNumber(t, "DiagQuotient", [][]int{a, x}, value, ok, 0, false)
			return
		}
		different++
		if len(a) > len(x) {
			fewer++
			want = 0
		}
		checkNumber(t, "DiagQuotient", [][]int{a, x}, value, ok, want, true)
		checkDiagram(t, "DiagQuotient", a, x)
	})
	if different < 10000 || same < 5000 || fewer < 1000 {
		t.Errorf("%d points of different numbers, %d of them with fewer numbers than parts, and %d others", different, fewer, same)
	}
}

// TestDiagQuotientSameNumbers has one pair of numbers that are the same, at each two places, the others being different.
func TestDiagQuotientSameNumbers(t *testing.T) {
	for n := 2; n <= 5; n++ {
		for i := range n {
			for k := range i {
				for _, number := range []int{0, 1, -5, 5} {
					x := []int{2, -3, 4, -2, 3}[:n]
					x[i], x[k] = number, number
					eachShare(func(_ int, a []int) {
						value, ok := impl.DiagQuotient(a, x)
						checkNumber(t, "DiagQuotient", [][]int{a, x}, value, ok, 0, false)
					})
					x[i] = -number
					if number == 0 {
						x[i] = 5
					}
					eachShare(func(_ int, a []int) { checkDiagram(t, "DiagQuotient", a, x) })
				}
			}
		}
	}
}

// TestDiagQuotientAllPoints has all points of three different numbers, in each order.
func TestDiagQuotientAllPoints(t *testing.T) {
	for _, x := range lists(3, -5, 5) {
		if !allDifferent(x) {
			continue
		}
		eachShare(func(d int, a []int) {
			if d >= 5 || d == 3 {
				checkDiagram(t, "DiagQuotient", a, x)
			}
		})
	}
}

func TestPromise63DiagPlain(t *testing.T) {
	checkRoad(t, "DiagPlain")
}

func TestPromise64DiagPowers(t *testing.T) {
	checkRoad(t, "DiagPowers")
}

// shareHolds reports whether all cells of a share are in another one.
func shareHolds(a []int, b []int) bool {
	_, inside := stripBetween(a, b)
	return inside
}

func TestPromise65DiagHolds(t *testing.T) {
	holds, neither := 0, 0
	eachPair(func(a []int, b []int) {
		held := impl.DiagHolds(a, b)
		if held != shareHolds(a, b) {
			t.Errorf("DiagHolds of %v and %v is %v", a, b, held)
		}
		back := impl.DiagHolds(b, a)
		if !held && !back {
			neither++
		}
		if held && back != slices.Equal(a, b) {
			t.Errorf("DiagHolds of %v and %v is %v, exchanged %v", a, b, held, back)
		}
		if impl.DiagHolds(turned(t, a), turned(t, b)) != held {
			t.Errorf("DiagHolds of %v and %v is %v, not so for both turned", a, b, held)
		}
		if held && sum(b) > sum(a) {
			t.Errorf("%v holds %v", a, b)
		}
		if held {
			holds++
		}
	})
	if holds < 200 || neither < 100 {
		t.Errorf("%d shares are held, and of %d neither holds the other", holds, neither)
	}
}

func TestDiagHoldsKnown(t *testing.T) {
	for _, c := range []struct {
		a, b []int
		want bool
	}{
		{nil, nil, true}, {nil, []int{}, true}, {[]int{}, nil, true}, {[]int{1}, nil, true}, {nil, []int{1}, false},
		{[]int{3, 2, 1}, []int{2, 2, 1}, true}, {[]int{3, 2, 1}, []int{3, 1, 1}, true}, {[]int{3, 2, 1}, []int{3, 3}, false},
		{[]int{3, 2, 1}, []int{1, 1, 1, 1}, false}, {[]int{2, 2}, []int{3}, false}, {[]int{3}, []int{2, 2}, false}, {[]int{3}, []int{1, 1}, false},
		{[]int{2, 2, 2}, []int{2, 2, 1, 1}, false}, {[]int{6}, []int{5}, true}, {[]int{5}, []int{6}, false}, {[]int{4, 1, 1}, []int{4, 2}, false},
		{[]int{1, 1, 1, 1, 1, 1}, []int{1, 1, 1, 1, 1}, true}, {[]int{1, 1, 1, 1, 1}, []int{1, 1, 1, 1, 1, 1}, false}, {[]int{4, 2}, []int{3, 3}, false},
	} {
		if held := impl.DiagHolds(c.a, c.b); held != c.want {
			t.Errorf("DiagHolds of %v and %v is %v", c.a, c.b, held)
		}
	}
}

// fillsRest reports whether places never fall along the cells of each row, and grow along those of each column.
func fillsRest(cells [][2]int, places []int) bool {
	for i, c := range cells {
		for k, other := range cells {
			if c[0] == other[0] && c[1] < other[1] && places[i] > places[k] || c[1] == other[1] && c[0] < other[0] && places[i] >= places[k] {
				return false
			}
		}
	}
	return true
}

// restTerms takes all ways to put n places into the cells of a share without those of one that it holds.
func restTerms(n int, a []int, b []int) terms {
	cells, _ := stripBetween(a, b)
	all := terms{}
	for _, places := range lists(len(cells), 0, n-1) {
		if fillsRest(cells, places) {
			all.addPlaces(places)
		}
	}
	return all
}

// restPoints holds some points of n numbers.
func restPoints(n int) [][]int {
	all := lists(n, -5, 5)
	if n > 1 {
		points := diagramPoints(n)
		all = points[:min(3, len(points))]
		for i := 5; i < len(points); i += 7 {
			all = append(all, points[i])
		}
	}
	return append(all, slices.Repeat([]int{5}, n), slices.Repeat([]int{-5}, n), slices.Repeat([]int{0}, n), []int{1, -2, 3, 5, -4}[:n])
}

// eachRest visits all shares and those that they hold with points of all lengths, and the rest sums there straight from the definition.
func eachRest(visit func(a []int, b []int, x []int, want int)) {
	for n := range 6 {
		points := restPoints(n)
		eachPair(func(a []int, b []int) {
			if !shareHolds(a, b) {
				return
			}
			all := restTerms(n, a, b)
			for _, x := range points {
				visit(a, b, x, all.at(x))
			}
		})
	}
}

func TestPromise66DiagRest(t *testing.T) {
	eachRest(func(a []int, b []int, x []int, want int) {
		of := [][]int{a, b, x}
		value, ok := impl.DiagRest(a, b, x)
		checkNumber(t, "DiagRest", of, value, ok, want, true)
		back, ok := impl.DiagRest(a, b, backwards(x))
		checkNumber(t, "DiagRest at the point backwards", of, back, ok, value, true)
		if len(b) == 0 {
			diagram, okd := impl.AtDiagram(a, x)
			checkNumber(t, "AtDiagram", of, diagram, okd, value, true)
		}
		if slices.Equal(a, b) && value != 1 {
			t.Errorf("DiagRest of %v and itself at %v is %d", a, x, value)
		}
	})
}

func TestPromise67DiagRestFull(t *testing.T) {
	eachRest(func(a []int, b []int, x []int, want int) {
		of := [][]int{a, b, x}
		value, ok := impl.DiagRestFull(a, b, x)
		checkNumber(t, "DiagRestFull", of, value, ok, want, true)
		if same, oks := impl.DiagRest(a, b, x); same != value || !oks {
			t.Errorf("DiagRestFull of %v is %d, DiagRest %d, %v", of, value, same, oks)
		}
	})
}

// TestPromise68DiagRestParts takes the first number alone and the others, and as well the first two numbers and the others.
func TestPromise68DiagRestParts(t *testing.T) {
	for n := 1; n <= 5; n++ {
		for _, x := range restPoints(n) {
			eachShare(func(_ int, a []int) {
				want, ok := impl.AtDiagram(a, x)
				if !ok {
					t.Errorf("AtDiagram of %v at %v fails", a, x)
				}
				for first := 1; first <= min(n, 2); first++ {
					if total := inParts(t, a, x[:first], x[first:]); total != want {
						t.Errorf("AtDiagram of %v at %v is %d, by %d and the others %d", a, x, want, first, total)
					}
				}
			})
		}
	}
}

// inParts adds up, over all shares held, the diagram sums at some numbers times the rest sums at others.
func inParts(t *testing.T, a []int, some []int, others []int) int {
	t.Helper()
	total := 0
	eachShare(func(_ int, b []int) {
		if !impl.DiagHolds(a, b) {
			return
		}
		diagram, okd := impl.AtDiagram(b, some)
		rest, okr := impl.DiagRest(a, b, others)
		if !okd || !okr {
			t.Errorf("AtDiagram of %v at %v: %v, DiagRest of %v: %v", b, some, okd, [][]int{a, b, others}, okr)
		}
		total += diagram * rest
	})
	return total
}

// TestDiagKnown holds diagram sums and rest sums that are written out.
func TestDiagKnown(t *testing.T) {
	for _, c := range []struct {
		a, x []int
		want int
	}{
		{[]int{2, 1}, []int{1, 2, 3}, 60}, {[]int{2, 1}, []int{1, 2}, 6}, {[]int{1, 1}, []int{3, 4}, 12}, {[]int{2}, []int{3, 4}, 37},
		{[]int{1, 1}, []int{-1, 1}, -1}, {[]int{6}, []int{-5}, 15625}, {[]int{6}, []int{0}, 0}, {[]int{5, 1}, []int{2, 1}, 62},
		{[]int{2, 2}, []int{-2, 3}, 36}, {[]int{3, 3}, []int{2, -3}, -216}, {[]int{1, 1, 1}, []int{5, -4, 2}, -40}, {[]int{3}, []int{1, -1}, 0},
		{[]int{1, 1, 1, 1, 1}, []int{1, 2, 3, 4, 5}, 120}, {[]int{2, 1, 1, 1, 1}, []int{1, 2, 3, 4, 5}, 1800}, {[]int{2, 2, 2}, []int{1, 2, 5}, 100},
		{[]int{3, 2, 1}, []int{1, 2, 3}, 360}, {[]int{2, 1, 1}, []int{0, 1, 2}, 0}, {[]int{4}, []int{0, 1, 2}, 31}, {nil, []int{4, 0}, 1}, {nil, nil, 1},
	} {
		for name, ask := range ofPoint() {
			value, ok := ask(c.a, c.x)
			checkNumber(t, name, [][]int{c.a, c.x}, value, ok, c.want*timesOf(name, c.a), true)
		}
	}
	for _, c := range []struct {
		a, b, x []int
		want    int
	}{
		{[]int{2, 1}, []int{1}, []int{1, 2}, 9}, {[]int{2, 2}, []int{1}, []int{1, 2}, 6}, {[]int{2, 2}, []int{2}, []int{1, 2}, 7},
		{[]int{2, 2}, []int{1, 1}, []int{1, 2}, 2}, {[]int{3, 2, 1}, []int{2, 1}, []int{1, 2, -1}, 8}, {[]int{4, 2}, []int{2}, []int{-3}, 81},
		{[]int{4, 2}, []int{1}, []int{-3}, 0}, {[]int{3, 3}, []int{2, 1}, []int{2, 3}, 30}, {[]int{2, 1}, []int{2}, []int{0, 5}, 5},
		{[]int{2, 1}, []int{2}, nil, 0}, {[]int{2, 1}, []int{2, 1}, nil, 1}, {[]int{1, 1, 1, 1, 1, 1}, []int{1}, []int{1, 2, 3, 4, 5}, 120},
		{[]int{1, 1, 1, 1, 1, 1}, []int{1, 1, 1}, []int{2, 5}, 0}, {[]int{6}, []int{4}, []int{2, -5}, 19}, {nil, nil, nil, 1}, {nil, nil, []int{0}, 1},
	} {
		for name, ask := range ofRest() {
			value, ok := ask(c.a, c.b, c.x)
			checkNumber(t, name, [][]int{c.a, c.b, c.x}, value, ok, c.want, true)
		}
	}
}

// TestDiagOneNumber: one number is put into all cells of a row, and into no two cells of a column.
func TestDiagOneNumber(t *testing.T) {
	power := func(number int, k int) int { return powerSum(k, []int{number}) }
	for number := -5; number <= 5; number++ {
		x := []int{number}
		eachShare(func(d int, a []int) {
			want := 0
			if len(a) <= 1 {
				want = power(number, d)
			}
			for name, ask := range ofPoint() {
				value, ok := ask(a, x)
				checkNumber(t, name, [][]int{a, x}, value, ok, want*timesOf(name, a), true)
			}
		})
		eachPair(func(a []int, b []int) {
			if !shareHolds(a, b) {
				return
			}
			cells, _ := stripBetween(a, b)
			columns := map[int]bool{}
			for _, c := range cells {
				columns[c[1]] = true
			}
			want := 0
			if len(columns) == len(cells) {
				want = power(number, len(cells))
			}
			for name, ask := range ofRest() {
				value, ok := ask(a, b, x)
				checkNumber(t, name, [][]int{a, b, x}, value, ok, want, true)
			}
		})
	}
}

// TestDiagMorePartsThanNumbers: the diagram sum is 0 on all roads, but by quotients only if there is one.
func TestDiagMorePartsThanNumbers(t *testing.T) {
	for n := range 6 {
		for _, x := range diagramPoints(n) {
			eachShare(func(_ int, a []int) {
				if len(a) <= n {
					return
				}
				for name, ask := range ofPoint() {
					value, ok := ask(a, x)
					checkNumber(t, name, [][]int{a, x}, value, ok, 0, name != "DiagQuotient" || allDifferent(x))
				}
				for name, ask := range ofRest() {
					value, ok := ask(a, nil, x)
					checkNumber(t, name, [][]int{a, nil, x}, value, ok, 0, true)
					value, ok = ask(a, a, x)
					checkNumber(t, name, [][]int{a, a, x}, value, ok, 1, true)
				}
			})
		}
	}
}

func TestDiagEmptyShare(t *testing.T) {
	for _, a := range [][]int{nil, {}} {
		eachPoint(func(x []int) {
			for name, ask := range ofPoint() {
				value, ok := ask(a, x)
				if name == "DiagQuotient" && !allDifferent(x) {
					checkNumber(t, name, [][]int{a, x}, value, ok, 0, false)
				} else {
					checkNumber(t, name, [][]int{a, x}, value, ok, 1, true)
				}
			}
			for name, ask := range ofRest() {
				for _, b := range [][]int{nil, {}} {
					value, ok := ask(a, b, x)
					checkNumber(t, name, [][]int{a, b, x}, value, ok, 1, true)
				}
			}
		})
	}
}

// TestDiagRestOfOthers: where a share does not hold the other one there is no rest sum, at no point.
func TestDiagRestOfOthers(t *testing.T) {
	eachPair(func(a []int, b []int) {
		if shareHolds(a, b) {
			return
		}
		for name, ask := range ofRest() {
			for _, x := range [][]int{nil, {0}, {1, 2, 3}, {5, -5, 0, 5, -5}, {1, 1, 1, 1, 1}} {
				value, ok := ask(a, b, x)
				checkNumber(t, name, [][]int{a, b, x}, value, ok, 0, false)
			}
		}
	})
}

func TestDiagOfNoShares(t *testing.T) {
	points := [][]int{nil, {0}, {1, 2, 3}, {1, 1}, {1, -1, 0, 5, -5}, {6}}
	others := [][]int{nil, {1}, {2, 1}, {6}, ones(6), {0}, {7}, {math.MaxInt}}
	for _, a := range noShares() {
		brief := a[:min(len(a), 10)]
		for _, x := range points {
			for name, ask := range ofPoint() {
				value, ok := ask(a, x)
				checkNumber(t, name, [][]int{brief, x}, value, ok, 0, false)
			}
		}
		for _, b := range append(others, a) {
			if impl.DiagHolds(a, b) || impl.DiagHolds(b, a) {
				t.Errorf("DiagHolds holds for no share %v and %v", brief, b[:min(len(b), 10)])
			}
			for name, ask := range ofRest() {
				for _, x := range points {
					value, ok := ask(a, b, x)
					checkNumber(t, name, [][]int{brief, b[:min(len(b), 10)], x}, value, ok, 0, false)
					value, ok = ask(b, a, x)
					checkNumber(t, name, [][]int{b[:min(len(b), 10)], brief, x}, value, ok, 0, false)
				}
			}
		}
	}
}

func TestDiagAtNoPoints(t *testing.T) {
	shares := [][]int{nil, {1}, {2, 1}, {6}, ones(6), {2, 2, 2}, {0}, {7}, {math.MinInt}}
	for _, x := range noPoints() {
		brief := x[:min(len(x), 10)]
		for _, a := range shares {
			for name, ask := range ofPoint() {
				value, ok := ask(a, x)
				checkNumber(t, name, [][]int{a, brief}, value, ok, 0, false)
			}
			for name, ask := range ofRest() {
				for _, b := range shares {
					value, ok := ask(a, b, x)
					checkNumber(t, name, [][]int{a, b, brief}, value, ok, 0, false)
				}
			}
		}
	}
}

// TestDiagAtLongList: a list of different numbers that is no point is found out before its numbers are compared with each other.
func TestDiagAtLongList(t *testing.T) {
	long := make([]int, 1000000)
	for i := range long {
		long[i] = i - 5
	}
	value, ok := impl.DiagQuotient([]int{1}, long)
	checkNumber(t, "DiagQuotient", "a long list", value, ok, 0, false)
}

// TestDiagMemory: arguments stay as they are, also if they are the same list.
func TestDiagMemory(t *testing.T) {
	for _, x := range [][]int{{}, {2}, {-1, 3}, {1, 2, 3}, {5, -5, 0, 4, -4}, {1, 1, 1, 1, 1}} {
		eachPair(func(a []int, b []int) {
			c, d, y := spaced(a), spaced(b), spaced(x)
			for range 2 {
				impl.DiagHolds(c, d)
				for _, ask := range ofPoint() {
					ask(c, y)
				}
				for _, ask := range ofRest() {
					ask(c, d, y)
					ask(c, c, y)
				}
			}
			unspoilt(t, "a function of diagrams", c, a)
			unspoilt(t, "a function of rests", d, b)
			unspoilt(t, "a function of diagrams at a point", y, x)
		})
	}
	for name, ask := range ofRest() {
		e := spaced([]int{2, 1})
		value, ok := ask(e, e, e)
		checkNumber(t, name, "2 1 for all arguments", value, ok, 1, true)
		unspoilt(t, name, e, []int{2, 1})
	}
}

// TestDiagAgain asks twice, with other questions in between, and at once: what one call finds does not show in another one.
func TestDiagAgain(t *testing.T) {
	x, y := []int{1, 2, 3}, []int{4, -2, 0, 3}
	var calls sync.WaitGroup
	eachShare(func(_ int, a []int) {
		for name, ask := range ofPoint() {
			calls.Add(1)
			go func() {
				defer calls.Done()
				first, okf := ask(a, x)
				other, oko := ask(a, y)
				again, oka := ask(a, x)
				back, okb := ask(a, backwards(y))
				if first != again || other != back || !okf || !oko || !oka || !okb {
					t.Errorf("%s of %v is %d, and then %d, at another point %d, and then %d", name, a, first, again, other, back)
				}
			}()
		}
	})
	calls.Wait()
}
