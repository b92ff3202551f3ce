package tests

import (
	"math"
	"runtime"
	"slices"
	"strings"
	"sync"
	"testing"
	"time"

	"loop.example/symmetricsums/impl"
)

// pairTables holds what takes two shares of one degree.
func pairTables() map[string]func([]int, []int) (int, bool) {
	return map[string]func([]int, []int) (int, bool){
		"TableChosen": impl.TableChosen, "TableFull": impl.TableFull, "TablePower": impl.TablePower,
		"TableDiagram": impl.TableDiagram, "TableSigns": impl.TableSigns,
	}
}

// letterTables holds what finds the entries of the tables, by their letters.
func letterTables() map[string]func([]int, []int) (int, bool) {
	return map[string]func([]int, []int) (int, bool){
		"e": impl.TableChosen, "h": impl.TableFull, "p": impl.TablePower, "s": impl.TableDiagram,
	}
}

// eachTwin visits all pairs of shares of one degree.
func eachTwin(visit func(d int, a []int, b []int)) {
	for d, all := range knownShares() {
		for _, a := range all {
			for _, b := range all {
				visit(d, a, b)
			}
		}
	}
}

// entry is what a function tells of two shares; the test fails if it tells nothing.
func entry(t *testing.T, name string, a []int, b []int) int {
	t.Helper()
	n, ok := pairTables()[name](a, b)
	if !ok {
		t.Fatalf("%s of %v and %v fails", name, a, b)
	}
	return n
}

func turned(t *testing.T, a []int) []int {
	t.Helper()
	b, ok := impl.ShareTurn(a)
	if !ok {
		t.Fatalf("ShareTurn of %v fails", a)
	}
	return b
}

// sequences counts lists of six numbers.
type sequences map[[6]int]int

// rowsOf counts the lists of six numbers with a sum that are allowed as a row.
func rowsOf(part int, allowed func(row []int) bool) sequences {
	all := sequences{}
	for _, row := range lists(6, 0, part) {
		if sum(row) == part && allowed(row) {
			all[[6]int(row)]++
		}
	}
	return all
}

// stacked counts, for each list of sums of six columns, the tables with these sums whose rows are counted.
func stacked(rows []sequences) sequences {
	all := sequences{{}: 1}
	for _, row := range rows {
		more := sequences{}
		for columns, n := range all {
			for numbers, m := range row {
				sums := columns
				for i, number := range numbers {
					sums[i] += number
				}
				more[sums] += n * m
			}
		}
		all = more
	}
	return all
}

// checkStacked compares a function with the tables whose rows are of one kind.
func checkStacked(t *testing.T, name string, allowed func(row []int) bool) {
	t.Helper()
	kinds := make([]sequences, 7)
	for part := range kinds {
		kinds[part] = rowsOf(part, allowed)
	}
	for _, all := range knownShares() {
		for _, a := range all {
			rows := []sequences{}
			for _, part := range a {
				rows = append(rows, kinds[part])
			}
			want := stacked(rows)
			for _, b := range all {
				columns := [6]int{}
				copy(columns[:], b)
				if n := entry(t, name, a, b); n != want[columns] {
					t.Errorf("%s of %v and %v is %d, not %d", name, a, b, n, want[columns])
				}
			}
		}
	}
}

// countFillings counts the ways to put a number 1 for each 1 told by the first part of a share b, and so on, into the cells of a.
func countFillings(d int, a []int, b []int) int {
	numbers := []int{}
	for i, part := range b {
		for range part {
			numbers = append(numbers, i+1)
		}
	}
	seen := map[[6]int]bool{}
	for _, order := range orders(d) {
		filling := [6]int{}
		for i, place := range order {
			filling[i] = numbers[place-1]
		}
		if fillsDiagram(a, filling[:d]) {
			seen[filling] = true
		}
	}
	return len(seen)
}

// stripBetween returns the cells of a share that are not in another one, and whether the other one is in it.
func stripBetween(a []int, b []int) ([][2]int, bool) {
	big, small := cellGrid(a), cellGrid(b)
	cells := [][2]int{}
	for i := range big {
		for j := range big[i] {
			if small[i][j] && !big[i][j] {
				return nil, false
			}
			if big[i][j] && !small[i][j] {
				cells = append(cells, [2]int{i, j})
			}
		}
	}
	return cells, true
}

// hangsTogether reports whether one comes from a cell to all others going from side to side.
func hangsTogether(cells [][2]int) bool {
	reached := cells[:1:1]
	for i := 0; i < len(reached); i++ {
		for _, c := range cells {
			down, right := c[0]-reached[i][0], c[1]-reached[i][1]
			if down*down+right*right == 1 && !slices.Contains(reached, c) {
				reached = append(reached, c)
			}
		}
	}
	return len(reached) == len(cells)
}

func hasSquare(cells [][2]int) bool {
	for _, c := range cells {
		if slices.Contains(cells, [2]int{c[0] + 1, c[1]}) && slices.Contains(cells, [2]int{c[0], c[1] + 1}) && slices.Contains(cells, [2]int{c[0] + 1, c[1] + 1}) {
			return true
		}
	}
	return false
}

func rowsWithCells(cells [][2]int) int {
	rows := map[int]bool{}
	for _, c := range cells {
		rows[c[0]] = true
	}
	return len(rows)
}

// takeRims adds up the signs of all ways to take rim strips off a share, straight from the definition.
func takeRims(a []int, strips []int, height int) int {
	if len(strips) == 0 {
		return 1 - 2*(height%2)
	}
	total := 0
	for _, b := range knownShares()[sum(a)-strips[0]] {
		cells, inside := stripBetween(a, b)
		if inside && hangsTogether(cells) && !hasSquare(cells) {
			total += takeRims(b, strips[1:], height+rowsWithCells(cells)-1)
		}
	}
	return total
}

func TestPromise21TableChosen(t *testing.T) {
	checkStacked(t, "TableChosen", func(row []int) bool { return slices.Max(row) <= 1 })
	eachTwin(func(_ int, a []int, b []int) {
		n := entry(t, "TableChosen", a, b)
		if turn := entry(t, "TableChosen", b, a); turn != n {
			t.Errorf("TableChosen of %v and %v is %d, exchanged %d", a, b, n, turn)
		}
		if (n != 0) != impl.ShareAbove(turned(t, a), b) || n < 0 {
			t.Errorf("TableChosen of %v and %v is %d", a, b, n)
		}
	})
}

func TestPromise22TableFull(t *testing.T) {
	checkStacked(t, "TableFull", func([]int) bool { return true })
	eachTwin(func(d int, a []int, b []int) {
		n := entry(t, "TableFull", a, b)
		if turn := entry(t, "TableFull", b, a); turn != n {
			t.Errorf("TableFull of %v and %v is %d, exchanged %d", a, b, n, turn)
		}
		total := 0
		for _, c := range knownShares()[d] {
			total += entry(t, "TableDiagram", c, a) * entry(t, "TableDiagram", c, b)
		}
		if total != n {
			t.Errorf("TableFull of %v and %v is %d, by diagrams %d", a, b, n, total)
		}
	})
}

func TestPromise23TableChosenByDiagrams(t *testing.T) {
	eachTwin(func(d int, a []int, b []int) {
		total := 0
		for _, c := range knownShares()[d] {
			total += entry(t, "TableDiagram", c, a) * entry(t, "TableDiagram", turned(t, c), b)
		}
		if n := entry(t, "TableChosen", a, b); total != n {
			t.Errorf("TableChosen of %v and %v is %d, by diagrams %d", a, b, n, total)
		}
	})
}

func TestPromise24TablePower(t *testing.T) {
	checkStacked(t, "TablePower", func(row []int) bool { return slices.Max(row) == sum(row) })
	eachTwin(func(_ int, a []int, b []int) {
		n := entry(t, "TablePower", a, b)
		if n < 0 || n != 0 && !impl.ShareAbove(b, a) {
			t.Errorf("TablePower of %v and %v is %d", a, b, n)
		}
	})
	eachShare(func(_ int, a []int) {
		want := 1
		for k := 1; k <= 6; k++ {
			equal := slices.DeleteFunc(slices.Clone(a), func(part int) bool { return part != k })
			want *= factorial(len(equal))
		}
		if n := entry(t, "TablePower", a, a); n != want {
			t.Errorf("TablePower of %v and itself is %d, not %d", a, n, want)
		}
	})
}

func TestPromise25TableDiagram(t *testing.T) {
	eachTwin(func(d int, a []int, b []int) {
		n := entry(t, "TableDiagram", a, b)
		if want := countFillings(d, a, b); n != want {
			t.Errorf("TableDiagram of %v and %v is %d, not %d", a, b, n, want)
		}
		if (n != 0) != impl.ShareAbove(a, b) {
			t.Errorf("TableDiagram of %v and %v is %d", a, b, n)
		}
	})
	eachShare(func(d int, a []int) {
		if n := entry(t, "TableDiagram", a, a); n != 1 {
			t.Errorf("TableDiagram of %v and itself is %d", a, n)
		}
		want, ok := impl.ShareLists(a)
		if n := entry(t, "TableDiagram", a, ones(d)); !ok || n != want {
			t.Errorf("TableDiagram of %v and ones is %d, ShareLists %d, %v", a, n, want, ok)
		}
	})
}

func TestPromise26TableOf(t *testing.T) {
	for letter, find := range letterTables() {
		for d, all := range knownShares() {
			table, ok := impl.TableOf(letter, d)
			if !ok || len(table) != len(all) {
				t.Fatalf("TableOf %s of %d has %d rows, %v", letter, d, len(table), ok)
			}
			for i, a := range all {
				if len(table[i]) != len(all) {
					t.Fatalf("TableOf %s of %d has %d numbers in row %d", letter, d, len(table[i]), i)
				}
				for k, b := range all {
					if n, ok := find(a, b); !ok || n != table[i][k] {
						t.Errorf("TableOf %s has %d for %v and %v, not %d, %v", letter, table[i][k], a, b, n, ok)
					}
				}
				for _, x := range [][]int{{1, 2, 3}, {}, {2}, {-3, 2}, {1, -1, 2, 4, -5}, {1, 1, 1, 1, 1}} {
					checkRow(t, letter, all, table[i], a, x)
				}
			}
		}
	}
}

// checkRow compares the value of a share at a point with the plain sums of all shares of its degree times the numbers of its row.
func checkRow(t *testing.T, letter string, all [][]int, row []int, a []int, x []int) {
	t.Helper()
	value, ok := impl.AtShare(letter, a, x)
	if letter == "s" {
		value, ok = impl.AtDiagram(a, x)
	}
	total := 0
	for k, b := range all {
		plain, _ := impl.AtPlain(b, x)
		total += row[k] * plain
	}
	if !ok || total != value {
		t.Errorf("the row of %v of TableOf %s tells %d at %v, not %d, %v", a, letter, total, x, value, ok)
	}
}

// checkProduct fails the test if the product of two tables does not have 1 in the middle and 0 elsewhere.
func checkProduct(t *testing.T, d int, a [][]int, b [][]int) {
	t.Helper()
	size := len(knownShares()[d])
	if len(a) != size || len(b) != size {
		t.Fatalf("the tables of degree %d have %d and %d rows", d, len(a), len(b))
	}
	for i := range size {
		for k := range size {
			total := 0
			for j := range size {
				total += a[i][j] * b[j][k]
			}
			if (total != 0) != (i == k) || i == k && total != 1 {
				t.Errorf("the product of tables of degree %d has %d in row %d and column %d", d, total, i, k)
			}
		}
	}
}

func TestPromise27TableBack(t *testing.T) {
	for d := range 7 {
		back, ok := impl.TableBack(d)
		table, okt := impl.TableOf("s", d)
		if !ok || !okt {
			t.Fatalf("TableBack of %d: %v, TableOf: %v", d, ok, okt)
		}
		checkProduct(t, d, back, table)
		checkProduct(t, d, table, back)
	}
}

func TestPromise28TableSigns(t *testing.T) {
	eachTwin(func(_ int, a []int, b []int) {
		n := entry(t, "TableSigns", a, b)
		if want := takeRims(a, b, 0); n != want {
			t.Errorf("TableSigns of %v and %v is %d, not %d", a, b, n, want)
		}
		sign, ok := impl.ShareSign(b)
		if turn := entry(t, "TableSigns", turned(t, a), b); !ok || turn != n*sign {
			t.Errorf("TableSigns of %v and %v is %d, of the turned share %d", a, b, n, turn)
		}
	})
	eachShare(func(d int, a []int) {
		want, ok := impl.ShareLists(a)
		if n := entry(t, "TableSigns", a, ones(d)); !ok || n != want {
			t.Errorf("TableSigns of %v and ones is %d, ShareLists %d, %v", a, n, want, ok)
		}
	})
}

func TestPromise29TableSignsSquares(t *testing.T) {
	eachShare(func(d int, b []int) {
		total := 0
		for _, a := range knownShares()[d] {
			n := entry(t, "TableSigns", a, b)
			total += n * n
		}
		if want, ok := impl.ShareTimes(b); !ok || total != want {
			t.Errorf("the squares of TableSigns for %v add up to %d, not %d, %v", b, total, want, ok)
		}
	})
}

// TestTableSignsPower: a power sum is made of diagram sums by the signs.
func TestTableSignsPower(t *testing.T) {
	eachTwin(func(d int, b []int, c []int) {
		total := 0
		for _, a := range knownShares()[d] {
			total += entry(t, "TableSigns", a, b) * entry(t, "TableDiagram", a, c)
		}
		if n := entry(t, "TablePower", b, c); n != total {
			t.Errorf("TablePower of %v and %v is %d, by signs %d", b, c, n, total)
		}
	})
}

// TestTableSignsStrips takes strips of a whole row or column: a row alone never counts as -1, a column does for each even part.
func TestTableSignsStrips(t *testing.T) {
	eachShare(func(d int, b []int) {
		row := []int{d}[:min(d, 1)]
		if n := entry(t, "TableSigns", row, b); n != 1 {
			t.Errorf("TableSigns of %v and %v is %d", row, b, n)
		}
		want := 1
		for _, part := range b {
			if part%2 == 0 {
				want = -want
			}
		}
		if n := entry(t, "TableSigns", ones(d), b); n != want {
			t.Errorf("TableSigns of %v and %v is %d, not %d", ones(d), b, n, want)
		}
	})
	for _, c := range []struct {
		a    []int
		want int
	}{{[]int{5, 1}, -1}, {[]int{4, 1, 1}, 1}, {[]int{3, 1, 1, 1}, -1}, {[]int{2, 1, 1, 1, 1}, 1}, {[]int{4, 2}, 0}, {[]int{3, 3}, 0}, {[]int{3, 2, 1}, 0}, {[]int{2, 2, 2}, 0}} {
		if n := entry(t, "TableSigns", c.a, []int{6}); n != c.want {
			t.Errorf("TableSigns of %v and 6 is %d, not %d", c.a, n, c.want)
		}
	}
}

// TestKnownTables holds tables that are written out.
func TestKnownTables(t *testing.T) {
	known := map[string][][]int{
		"e": {{0, 0, 1}, {0, 1, 3}, {1, 3, 6}},
		"h": {{1, 1, 1}, {1, 2, 3}, {1, 3, 6}},
		"p": {{1, 0, 0}, {1, 1, 0}, {1, 3, 6}},
		"s": {{1, 1, 1}, {0, 1, 2}, {0, 0, 1}},
	}
	for letter, want := range known {
		if table, ok := impl.TableOf(letter, 3); !ok || !sameLists(table, want) {
			t.Errorf("TableOf %s of 3 is %v, %v", letter, table, ok)
		}
	}
	diagrams := [][]int{{1, 1, 1, 1, 1}, {0, 1, 1, 2, 3}, {0, 0, 1, 1, 2}, {0, 0, 0, 1, 3}, {0, 0, 0, 0, 1}}
	if table, ok := impl.TableOf("s", 4); !ok || !sameLists(table, diagrams) {
		t.Errorf("TableOf s of 4 is %v, %v", table, ok)
	}
	back := [][]int{{1, -1, 0, 1, -1}, {0, 1, -1, -1, 2}, {0, 0, 1, -1, 1}, {0, 0, 0, 1, -3}, {0, 0, 0, 0, 1}}
	if table, ok := impl.TableBack(4); !ok || !sameLists(table, back) {
		t.Errorf("TableBack of 4 is %v, %v", table, ok)
	}
	signs := [][]int{{1, 1, 1, 1, 1}, {-1, 0, -1, 1, 3}, {0, -1, 2, 0, 2}, {1, 0, -1, -1, 3}, {-1, 1, 1, -1, 1}}
	for i, a := range knownShares()[4] {
		for k, b := range knownShares()[4] {
			if n := entry(t, "TableSigns", a, b); n != signs[i][k] {
				t.Errorf("TableSigns of %v and %v is %d, not %d", a, b, n, signs[i][k])
			}
		}
	}
	last := ones(6)
	for name, want := range map[string]int{"TableChosen": 720, "TableFull": 720, "TablePower": 720, "TableDiagram": 1, "TableSigns": 1} {
		if n := entry(t, name, last, last); n != want {
			t.Errorf("%s of six ones and six ones is %d, not %d", name, n, want)
		}
	}
}

func TestTablesOfDegreeNought(t *testing.T) {
	for name, find := range pairTables() {
		for _, a := range [][]int{nil, {}} {
			for _, b := range [][]int{nil, {}} {
				if n, ok := find(a, b); !ok || n != 1 {
					t.Errorf("%s of two empty shares is %d, %v", name, n, ok)
				}
			}
		}
	}
	for letter := range letterTables() {
		if table, ok := impl.TableOf(letter, 0); !ok || !sameLists(table, [][]int{{1}}) {
			t.Errorf("TableOf %s of 0 is %v, %v", letter, table, ok)
		}
	}
	if table, ok := impl.TableBack(0); !ok || !sameLists(table, [][]int{{1}}) {
		t.Errorf("TableBack of 0 is %v, %v", table, ok)
	}
}

// TestFirstAndLastShares takes the first and the last share of each degree.
func TestFirstAndLastShares(t *testing.T) {
	for d := 1; d <= 6; d++ {
		first, last := []int{d}, ones(d)
		for name, want := range map[string][4]int{
			"TableChosen":  {0, 1, 1, factorial(d)},
			"TableFull":    {1, 1, 1, factorial(d)},
			"TablePower":   {1, 0, 1, factorial(d)},
			"TableDiagram": {1, 1, 0, 1},
			"TableSigns":   {1, 1, 1 - 2*((d+1)%2), 1},
		} {
			if d == 1 {
				want = [4]int{1, 1, 1, 1}
			}
			got := [4]int{entry(t, name, first, first), entry(t, name, first, last), entry(t, name, last, first), entry(t, name, last, last)}
			if got != want {
				t.Errorf("%s of the first and the last share of degree %d is %v, not %v", name, d, got, want)
			}
		}
	}
}

func TestTablesOfNoShares(t *testing.T) {
	others := append(noShares(), nil, []int{1}, []int{2, 1}, []int{6}, ones(6))
	for name, find := range pairTables() {
		for _, a := range noShares() {
			for _, b := range append(others, a) {
				if n, ok := find(a, b); ok || n != 0 {
					t.Errorf("%s of no share %v and %v is %d, %v", name, a[:min(len(a), 10)], b[:min(len(b), 10)], n, ok)
				}
				if n, ok := find(b, a); ok || n != 0 {
					t.Errorf("%s of %v and no share %v is %d, %v", name, b[:min(len(b), 10)], a[:min(len(a), 10)], n, ok)
				}
			}
		}
	}
}

func TestTablesOfTwoDegrees(t *testing.T) {
	for name, find := range pairTables() {
		eachPair(func(a []int, b []int) {
			n, ok := find(a, b)
			if ok != (sum(a) == sum(b)) || !ok && n != 0 {
				t.Errorf("%s of %v and %v is %d, %v", name, a, b, n, ok)
			}
		})
	}
}

func tableLettersOutside() []string {
	all := slices.DeleteFunc(otherLetters(), func(letter string) bool { return letter == "s" })
	return append(all, "m", "ss", "ee", "hh", "pp", "es", "s ", " s", "s\n", "s\x00", "\xffs", "ſ", "diagram", "signs", "ehps", strings.Repeat("s", 100000))
}

func TestTablesOfOtherLetters(t *testing.T) {
	for _, letter := range tableLettersOutside() {
		for _, d := range append([]int{0, 1, 2, 3, 4, 5, 6}, outside...) {
			if table, ok := impl.TableOf(letter, d); ok || len(table) != 0 {
				t.Errorf("TableOf %q of %d is %v, %v", letter[:min(len(letter), 10)], d, table, ok)
			}
		}
	}
}

func TestTablesOfOtherDegrees(t *testing.T) {
	for _, d := range append([]int{math.MinInt + 1, math.MaxInt - 1, math.MinInt32, 1<<62 + 3}, outside...) {
		for letter := range letterTables() {
			if table, ok := impl.TableOf(letter, d); ok || len(table) != 0 {
				t.Errorf("TableOf %s of %d is %v, %v", letter, d, table, ok)
			}
		}
		if table, ok := impl.TableBack(d); ok || len(table) != 0 {
			t.Errorf("TableBack of %d is %v, %v", d, table, ok)
		}
	}
}

func TestTablesMemory(t *testing.T) {
	eachTwin(func(_ int, a []int, b []int) {
		for name, find := range pairTables() {
			c, e := spaced(a), spaced(b)
			first, _ := find(c, e)
			unspoilt(t, name, c, a)
			unspoilt(t, name, e, b)
			if again, ok := find(a, b); !ok || again != first {
				t.Errorf("%s of %v and %v is %d, and then %d, %v", name, a, b, first, again, ok)
			}
			if _, ok := find(c, c); !ok {
				t.Errorf("%s of %v and the same list fails", name, a)
			}
			unspoilt(t, name, c, a)
		}
	})
}

// allTables holds what makes tables of a degree.
func allTables() map[string]func(d int) ([][]int, bool) {
	all := map[string]func(d int) ([][]int, bool){"TableBack": impl.TableBack}
	for letter := range letterTables() {
		all["TableOf "+letter] = func(d int) ([][]int, bool) { return impl.TableOf(letter, d) }
	}
	return all
}

// TestTablesApart scribbles over tables: no row shares memory with another one, or with a table made again.
func TestTablesApart(t *testing.T) {
	for name, table := range allTables() {
		for d := range 7 {
			first, _ := table(d)
			second, _ := table(d)
			keep := [][]int{}
			for _, row := range first {
				keep = append(keep, slices.Clone(row))
			}
			apart(t, name, slices.Concat(first, second)...)
			for i := range first {
				scribble(first[i])
				first[i] = nil
			}
			third, ok := table(d)
			if !ok || !sameLists(second, keep) || !sameLists(third, keep) {
				t.Errorf("%s of %d is %v, then %v, then %v", name, d, keep, second, third)
			}
		}
	}
}

// TestTablesAtOnce makes tables at once: what one call finds does not show in another one.
func TestTablesAtOnce(t *testing.T) {
	for name, table := range allTables() {
		var calls sync.WaitGroup
		for d := range 7 {
			want, _ := table(d)
			for range 8 {
				calls.Add(1)
				go func() {
					defer calls.Done()
					if got, ok := table(d); !ok || !sameLists(got, want) {
						t.Errorf("%s of %d is %v, %v", name, d, got, ok)
					}
				}()
			}
		}
		calls.Wait()
	}
}

// TestTablesLeaveNoGoroutine: an ended goroutine may be counted for a moment still, one that waits for ever always is.
func TestTablesLeaveNoGoroutine(t *testing.T) {
	before := runtime.NumGoroutine()
	for _, table := range allTables() {
		for d := -1; d <= 7; d++ {
			table(d)
		}
	}
	impl.TableOf("m", 6)
	for range 1000 {
		if runtime.NumGoroutine() <= before {
			return
		}
		time.Sleep(time.Millisecond)
	}
	t.Errorf("%d goroutines before, %d behind", before, runtime.NumGoroutine())
}
