package tests

import (
	"math"
	"slices"
	"strings"
	"testing"

	"loop.example/symmetricsums/impl"
)

// terms holds how often each product of powers of the numbers of a point is added up, by the powers.
type terms map[[5]int]int

// at adds up the products at a point.
func (s terms) at(x []int) int {
	value := 0
	for powers, times := range s {
		for i, number := range x {
			for range powers[i] {
				times *= number
			}
		}
		value += times
	}
	return value
}

// addPlaces adds the product of the numbers at some places.
func (s terms) addPlaces(places []int) {
	powers := [5]int{}
	for _, i := range places {
		powers[i]++
	}
	s[powers]++
}

// plainTerms takes all lists of n powers that have the parts of a share and otherwise 0.
func plainTerms(n int, a []int) terms {
	all := terms{}
	for _, powers := range lists(n, 0, 6) {
		parts := slices.DeleteFunc(slices.Clone(powers), func(power int) bool { return power == 0 })
		slices.SortFunc(parts, func(x int, y int) int { return y - x })
		if slices.Equal(parts, a) {
			all[[5]int(append(slices.Clone(powers), 0, 0, 0, 0, 0)[:5])]++
		}
	}
	return all
}

// placesTerms takes all lists of k of n places that never fall, and those only that grow if no place may be told again.
func placesTerms(n int, k int, again bool) terms {
	all := terms{}
	for _, places := range lists(k, 0, n-1) {
		good := true
		for i := 1; i < k; i++ {
			good = good && (places[i-1] < places[i] || again && places[i-1] == places[i])
		}
		if good {
			all.addPlaces(places)
		}
	}
	return all
}

// fillsDiagram reports whether places never fall along each part of a share, and grow from part to part.
func fillsDiagram(a []int, places []int) bool {
	var ahead []int
	for _, part := range a {
		row := places[:part]
		places = places[part:]
		for j := range row {
			if j > 0 && row[j-1] > row[j] || ahead != nil && ahead[j] >= row[j] {
				return false
			}
		}
		ahead = row
	}
	return true
}

// diagramTerms takes all ways to put n places into the cells of a share.
func diagramTerms(n int, a []int) terms {
	all := terms{}
	for _, places := range lists(sum(a), 0, n-1) {
		if fillsDiagram(a, places) {
			all.addPlaces(places)
		}
	}
	return all
}

func powerSum(k int, x []int) int {
	value := 0
	for _, number := range x {
		product := 1
		for range k {
			product *= number
		}
		value += product
	}
	return value
}

func backwards(x []int) []int {
	y := slices.Clone(x)
	slices.Reverse(y)
	return y
}

// ones holds so many ones.
func ones(n int) []int {
	return slices.Repeat([]int{1}, n)
}

// pointsOf holds points of n numbers: all of them for small n, and otherwise those of the numbers -5, 0 and 5, and ordinary ones.
func pointsOf(n int) [][]int {
	if n <= 2 {
		return lists(n, -5, 5)
	}
	all := [][]int{}
	for _, x := range lists(n, -1, 1) {
		for i := range x {
			x[i] *= 5
		}
		all = append(all, x)
	}
	for _, x := range [][]int{{1, 2, 3, 4, 5}, {2, -1, 4, 3, -5}, {1, 1, 1, 1, 1}, {-3, 3, 2, 2, -4}, {5, 0, -2, 1, 4}} {
		all = append(all, x[:n])
	}
	return all
}

// eachPoint visits the points of pointsOf of all lengths.
func eachPoint(visit func(x []int)) {
	for n := range 6 {
		for _, x := range pointsOf(n) {
			visit(x)
		}
	}
}

// noPoints holds lists that are no points.
func noPoints() [][]int {
	all := [][]int{
		make([]int, 6), ones(6), {1, 2, 3, 4, 5, 0}, {-5, 5, -5, 5, -5, 5}, make([]int, 7), make([]int, 100000),
		{6, 6}, {-6, 6}, {6, -6, 0}, {math.MaxInt, math.MinInt}, {0, 0, 0, 0, 0, 6},
	}
	bad := []int{6, -6, 7, -7, 100, math.MaxInt, math.MinInt, math.MinInt + 1, math.MaxInt32, math.MinInt32, 1 << 32, 1<<32 + 1, -1 << 32, 1<<62 + 5, 256, 257}
	for n := 1; n <= 5; n++ {
		for i := range n {
			for _, number := range bad {
				x := []int{1, 0, -2, 5, -5}[:n]
				x[i] = number
				all = append(all, x)
			}
		}
	}
	return all
}

func otherLetters() []string {
	return []string{
		"", "s", "M", "E", "H", "P", "S", "mm", "em", "me", "ehp", "m ", " m", "e\n", "m\x00", "\x00", "\x00m", "é", "\xff", "m\xff",
		"\uff4d", "0", "plain", "chosen", "full", "power", "\u0435", strings.Repeat("m", 100000),
	}
}

var outside = []int{-1, -2, 7, 8, 100, math.MaxInt, math.MinInt, math.MaxInt32, 1 << 32, 1<<32 + 1, -1 << 32, 256, 262}

// byShare holds what takes a share and a point.
func byShare() map[string]func([]int, []int) (int, bool) {
	all := map[string]func([]int, []int) (int, bool){"AtPlain": impl.AtPlain, "AtDiagram": impl.AtDiagram}
	for _, letter := range []string{"m", "e", "h", "p"} {
		all["AtShare "+letter] = func(a []int, x []int) (int, bool) { return impl.AtShare(letter, a, x) }
	}
	return all
}

// byNumber holds what takes a number k and a point.
func byNumber() map[string]func(int, []int) (int, bool) {
	return map[string]func(int, []int) (int, bool){"AtChosen": impl.AtChosen, "AtFull": impl.AtFull, "AtPower": impl.AtPower}
}

// byWays holds what takes a share and a number n.
func byWays() map[string]func([]int, int) (int, bool) {
	return map[string]func([]int, int) (int, bool){"AtWays": impl.AtWays, "AtWaysCells": impl.AtWaysCells}
}

func TestPromise13AtPlain(t *testing.T) {
	for n := range 6 {
		eachShare(func(_ int, a []int) {
			want := plainTerms(n, a)
			for _, x := range pointsOf(n) {
				value, ok := impl.AtPlain(a, x)
				if !ok || value != want.at(x) {
					t.Fatalf("AtPlain of %v at %v is %d, %v, not %d", a, x, value, ok, want.at(x))
				}
				if back, ok := impl.AtPlain(a, backwards(x)); !ok || back != value {
					t.Errorf("AtPlain of %v at %v backwards is %d, %v, not %d", a, x, back, ok, value)
				}
				if n < 5 {
					if more, ok := impl.AtPlain(a, append(slices.Clone(x), 0)); !ok || more != value {
						t.Errorf("AtPlain of %v at %v with 0 behind is %d, %v, not %d", a, x, more, ok, value)
					}
				} else if more, ok := impl.AtPlain(a, append(slices.Clone(x), 0)); ok || more != 0 {
					t.Errorf("AtPlain of %v at six numbers is %d, %v", a, more, ok)
				}
				if len(a) > n && value != 0 {
					t.Errorf("AtPlain of %v at %v is %d", a, x, value)
				}
			}
		})
	}
}

func TestPromise14AtChosen(t *testing.T) {
	for n := range 6 {
		for k := range 7 {
			want := placesTerms(n, k, false)
			for _, x := range pointsOf(n) {
				value, ok := impl.AtChosen(k, x)
				if !ok || value != want.at(x) {
					t.Fatalf("AtChosen of %d at %v is %d, %v, not %d", k, x, value, ok, want.at(x))
				}
				if plain, ok := impl.AtPlain(ones(k), x); !ok || plain != value {
					t.Errorf("AtChosen of %d at %v is %d, AtPlain %d, %v", k, x, value, plain, ok)
				}
				if k > n && value != 0 {
					t.Errorf("AtChosen of %d at %v is %d", k, x, value)
				}
			}
		}
	}
}

func TestPromise15AtFull(t *testing.T) {
	for n := range 6 {
		for k, shares := range knownShares() {
			want := placesTerms(n, k, true)
			for _, x := range pointsOf(n) {
				value, ok := impl.AtFull(k, x)
				if !ok || value != want.at(x) {
					t.Fatalf("AtFull of %d at %v is %d, %v, not %d", k, x, value, ok, want.at(x))
				}
				total := 0
				for _, a := range shares {
					plain, _ := impl.AtPlain(a, x)
					total += plain
				}
				if total != value {
					t.Errorf("AtFull of %d at %v is %d, the plain sums add up to %d", k, x, value, total)
				}
				total = 0
				for i, sign := 0, 1; i <= k; i, sign = i+1, -sign {
					chosen, _ := impl.AtChosen(i, x)
					full, _ := impl.AtFull(k-i, x)
					total += sign * chosen * full
				}
				if k > 0 && total != 0 {
					t.Errorf("AtFull up to %d and AtChosen at %v add up to %d", k, x, total)
				}
			}
		}
	}
}

func TestPromise16AtPower(t *testing.T) {
	eachPoint(func(x []int) {
		for k := range 7 {
			value, ok := impl.AtPower(k, x)
			if !ok || value != powerSum(k, x) {
				t.Fatalf("AtPower of %d at %v is %d, %v", k, x, value, ok)
			}
			if k == 0 {
				if value != len(x) {
					t.Errorf("AtPower of 0 at %v is %d", x, value)
				}
				continue
			}
			total, sign := 0, 1
			for i := 1; i < k; i++ {
				chosen, _ := impl.AtChosen(i, x)
				power, _ := impl.AtPower(k-i, x)
				total += sign * chosen * power
				sign = -sign
			}
			last, _ := impl.AtChosen(k, x)
			if total+sign*k*last != value {
				t.Errorf("AtPower of %d at %v is %d, by chosen sums %d", k, x, value, total+sign*k*last)
			}
		}
	})
}

func TestPromise17AtShare(t *testing.T) {
	for n := range 6 {
		single := map[string][]terms{}
		for k := range 7 {
			single["e"] = append(single["e"], placesTerms(n, k, false))
			single["h"] = append(single["h"], placesTerms(n, k, true))
		}
		for _, x := range pointsOf(n) {
			values := map[string][]int{}
			for k := range 7 {
				values["e"] = append(values["e"], single["e"][k].at(x))
				values["h"] = append(values["h"], single["h"][k].at(x))
				values["p"] = append(values["p"], powerSum(k, x))
			}
			for letter, ofPart := range values {
				eachShare(func(_ int, a []int) {
					want := 1
					for _, part := range a {
						want *= ofPart[part]
					}
					checkAtShare(t, letter, a, x, want)
				})
			}
		}
	}
}

// checkAtShare is for other letters than m.
func checkAtShare(t *testing.T, letter string, a []int, x []int, want int) {
	t.Helper()
	value, ok := impl.AtShare(letter, a, x)
	if !ok || value != want {
		t.Errorf("AtShare %s of %v at %v is %d, %v, not %d", letter, a, x, value, ok, want)
	}
	if back, ok := impl.AtShare(letter, a, backwards(x)); !ok || back != value {
		t.Errorf("AtShare %s of %v at %v backwards is %d, %v, not %d", letter, a, x, back, ok, value)
	}
	twice, told := impl.ShareJoin(a, a)
	if told != (2*sum(a) <= 6) {
		t.Errorf("ShareJoin of %v and itself: %v", a, told)
	}
	if square, ok := impl.AtShare(letter, twice, x); told && (!ok || square != value*value) {
		t.Errorf("AtShare %s of %v at %v is %d, %v, not the square of %d", letter, twice, x, square, ok, value)
	}
}

func TestAtSharePlain(t *testing.T) {
	eachPoint(func(x []int) {
		eachShare(func(_ int, a []int) {
			value, ok := impl.AtShare("m", a, x)
			want, okw := impl.AtPlain(a, x)
			if !ok || !okw || value != want {
				t.Errorf("AtShare m of %v at %v is %d, %v, not %d", a, x, value, ok, want)
			}
		})
	})
}

func TestPromise18AtDiagram(t *testing.T) {
	for n := range 6 {
		eachShare(func(_ int, a []int) {
			want := diagramTerms(n, a)
			for _, x := range pointsOf(n) {
				value, ok := impl.AtDiagram(a, x)
				if !ok || value != want.at(x) {
					t.Fatalf("AtDiagram of %v at %v is %d, %v, not %d", a, x, value, ok, want.at(x))
				}
				if back, ok := impl.AtDiagram(a, backwards(x)); !ok || back != value {
					t.Errorf("AtDiagram of %v at %v backwards is %d, %v, not %d", a, x, back, ok, value)
				}
				if len(a) > n && value != 0 {
					t.Errorf("AtDiagram of %v at %v is %d", a, x, value)
				}
			}
		})
	}
}

func TestPromise19AtWays(t *testing.T) {
	for n := range 6 {
		eachShare(func(_ int, a []int) {
			want := 0
			for _, times := range diagramTerms(n, a) {
				want += times
			}
			value, ok := impl.AtWays(a, n)
			if !ok || value != want {
				t.Errorf("AtWays of %v and %d is %d, %v, not %d", a, n, value, ok, want)
			}
			if cells, ok := impl.AtWaysCells(a, n); !ok || cells != value {
				t.Errorf("AtWaysCells of %v and %d is %d, %v, not %d", a, n, cells, ok, value)
			}
		})
	}
}

func TestPromise20AtWaysCells(t *testing.T) {
	for n := range 6 {
		eachShare(func(_ int, a []int) {
			value, ok := impl.AtWaysCells(a, n)
			if !ok || (value == 0) != (len(a) > n) || value < 0 {
				t.Errorf("AtWaysCells of %v and %d is %d, %v", a, n, value, ok)
			}
			if diagram, ok := impl.AtDiagram(a, ones(n)); !ok || diagram != value {
				t.Errorf("AtWaysCells of %v and %d is %d, AtDiagram at ones %d, %v", a, n, value, diagram, ok)
			}
		})
	}
}

// TestKnownValues holds values that were found by hand.
func TestKnownValues(t *testing.T) {
	x := []int{1, 2, 3}
	for name, want := range map[string]int{"AtPlain": 48, "AtDiagram": 60, "AtShare m": 48, "AtShare e": 66, "AtShare h": 150, "AtShare p": 84} {
		if value, ok := byShare()[name]([]int{2, 1}, x); !ok || value != want {
			t.Errorf("%s of 2 1 at 1 2 3 is %d, %v, not %d", name, value, ok, want)
		}
	}
	for name, want := range map[string]int{"AtChosen": 11, "AtFull": 25, "AtPower": 14} {
		if value, ok := byNumber()[name](2, x); !ok || value != want {
			t.Errorf("%s of 2 at 1 2 3 is %d, %v, not %d", name, value, ok, want)
		}
	}
	for name, ask := range byWays() {
		if value, ok := ask([]int{6}, 5); !ok || value != 210 {
			t.Errorf("%s of 6 and 5 is %d, %v", name, value, ok)
		}
	}
	if value, ok := impl.AtFull(6, []int{-5, -5, -5, -5, -5}); !ok || value != 210*15625 {
		t.Errorf("AtFull of 6 at five times -5 is %d, %v", value, ok)
	}
}

func TestPointWithoutNumbers(t *testing.T) {
	for _, x := range [][]int{nil, {}} {
		for name, ask := range byShare() {
			eachShare(func(d int, a []int) {
				want := 0
				if d == 0 {
					want = 1
				}
				if value, ok := ask(a, x); !ok || value != want {
					t.Errorf("%s of %v at no numbers is %d, %v", name, a, value, ok)
				}
			})
			if value, ok := ask(nil, x); !ok || value != 1 {
				t.Errorf("%s of the nil share at no numbers is %d, %v", name, value, ok)
			}
		}
		for k := range 7 {
			for name, ask := range byNumber() {
				want := 0
				if k == 0 && name != "AtPower" {
					want = 1
				}
				if value, ok := ask(k, x); !ok || value != want {
					t.Errorf("%s of %d at no numbers is %d, %v", name, k, value, ok)
				}
			}
		}
	}
}

func TestEmptyShareAtPoints(t *testing.T) {
	for _, a := range [][]int{nil, {}} {
		eachPoint(func(x []int) {
			for name, ask := range byShare() {
				if value, ok := ask(a, x); !ok || value != 1 {
					t.Errorf("%s of the empty share at %v is %d, %v", name, x, value, ok)
				}
			}
		})
		for n := range 6 {
			for name, ask := range byWays() {
				if value, ok := ask(a, n); !ok || value != 1 {
					t.Errorf("%s of the empty share and %d is %d, %v", name, n, value, ok)
				}
			}
		}
	}
}

func TestNoPoints(t *testing.T) {
	for _, x := range noPoints() {
		for name, ask := range byShare() {
			for _, a := range [][]int{nil, {1}, {2, 1}, {6}, {1, 1, 1, 1, 1, 1}, {0}, {7}, {math.MaxInt}} {
				if value, ok := ask(a, x); ok || value != 0 {
					t.Errorf("%s of %v at no point %v is %d, %v", name, a, x[:min(len(x), 6)], value, ok)
				}
			}
		}
		for name, ask := range byNumber() {
			for _, k := range []int{0, 1, 2, 6, -1, 7, math.MaxInt, math.MinInt} {
				if value, ok := ask(k, x); ok || value != 0 {
					t.Errorf("%s of %d at no point %v is %d, %v", name, k, x[:min(len(x), 6)], value, ok)
				}
			}
		}
		if value, ok := impl.AtShare("s", []int{1}, x); ok || value != 0 {
			t.Errorf("AtShare s at no point %v is %d, %v", x[:min(len(x), 6)], value, ok)
		}
	}
}

func TestValuesOfNoShares(t *testing.T) {
	for _, a := range noShares() {
		for name, ask := range byShare() {
			for _, x := range [][]int{nil, {0}, {1, 2, 3}, {5, -5, 0, 5, -5}, {6}} {
				if value, ok := ask(a, x); ok || value != 0 {
					t.Errorf("%s of no share %v at %v is %d, %v", name, a[:min(len(a), 10)], x, value, ok)
				}
			}
		}
		for name, ask := range byWays() {
			for _, n := range []int{0, 1, 3, 5, -1, 6, math.MaxInt} {
				if value, ok := ask(a, n); ok || value != 0 {
					t.Errorf("%s of no share %v and %d is %d, %v", name, a[:min(len(a), 10)], n, value, ok)
				}
			}
		}
	}
}

func TestValuesOfOtherNumbers(t *testing.T) {
	for _, k := range outside {
		for name, ask := range byNumber() {
			for _, x := range [][]int{nil, {0}, {1}, {1, 2, 3}, {5, -5, 0, 5, -5}} {
				if value, ok := ask(k, x); ok || value != 0 {
					t.Errorf("%s of %d at %v is %d, %v", name, k, x, value, ok)
				}
			}
		}
	}
	for _, n := range append([]int{6}, outside...) {
		for name, ask := range byWays() {
			eachShare(func(_ int, a []int) {
				if value, ok := ask(a, n); ok || value != 0 {
					t.Errorf("%s of %v and %d is %d, %v", name, a, n, value, ok)
				}
			})
		}
	}
}

func TestOtherLetters(t *testing.T) {
	for _, letter := range otherLetters() {
		for _, x := range [][]int{nil, {0}, {1, 2, 3}, {5, -5, 0, 5, -5}} {
			eachShare(func(_ int, a []int) {
				if value, ok := impl.AtShare(letter, a, x); ok || value != 0 {
					t.Errorf("AtShare %q of %v at %v is %d, %v", letter[:min(len(letter), 10)], a, x, value, ok)
				}
			})
		}
	}
}

func TestValuesMemory(t *testing.T) {
	for _, x := range [][]int{{}, {2}, {-1, 3}, {1, 2, 3}, {5, -5, 0, 5, -5}, {1, 1, 1, 1, 1}} {
		eachShare(func(_ int, a []int) {
			b, y := spaced(a), spaced(x)
			for range 2 {
				for _, ask := range byShare() {
					ask(b, y)
				}
				for _, ask := range byNumber() {
					ask(sum(a), y)
				}
				for _, ask := range byWays() {
					ask(b, len(x))
				}
			}
			unspoilt(t, "a function of values", b, a)
			unspoilt(t, "a function of values", y, x)
		})
	}
}

// TestValuesAgain asks twice, with other questions in between, and changes the point in between.
func TestValuesAgain(t *testing.T) {
	x := []int{1, 2, 3}
	for name, ask := range byShare() {
		eachShare(func(_ int, a []int) {
			first, _ := ask(a, x)
			other, okother := ask(a, []int{4, -2})
			y := []int{4, -2}
			inPlace, okplace := ask(a, y)
			y[0], y[1] = -2, 4
			turned, okturned := ask(a, y)
			if again, ok := ask(a, x); !ok || again != first {
				t.Errorf("%s of %v is %d, and then %d, %v", name, a, first, again, ok)
			}
			if !okother || !okplace || !okturned || inPlace != other || turned != other {
				t.Errorf("%s of %v at 4 -2 is %d, %d and %d", name, a, other, inPlace, turned)
			}
		})
	}
}
