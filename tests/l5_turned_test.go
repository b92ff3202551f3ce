package tests

import (
	"math/big"
	"slices"
	"sync"
	"testing"

	"loop.example/symmetricsums/impl"
)

// rowsIn holds, by way and degree, a row for each share with the numbers by which it is told in another way, found from equations.
func rowsIn(way string) map[string][][][]*big.Rat {
	all := map[string][][][]*big.Rat{}
	for from, tables := range wayTables() {
		for d, table := range tables {
			rows := [][]*big.Rat{}
			for _, numbers := range table {
				rows = append(rows, solve(wayTables()[way][d], numbers))
			}
			all[from] = append(all[from], rows)
		}
	}
	return all
}

var rowsInDiagrams = sync.OnceValue(func() map[string][][][]*big.Rat { return rowsIn("s") })

var rowsInPowers = sync.OnceValue(func() map[string][][][]*big.Rat { return rowsIn("p") })

// addRows adds up rows, each one times a number.
func addRows(rows [][]*big.Rat, numbers []*big.Rat) []*big.Rat {
	total := []*big.Rat{}
	for range rows {
		total = append(total, new(big.Rat))
	}
	for i, row := range rows {
		for k, entry := range row {
			total[k].Add(total[k], new(big.Rat).Mul(numbers[i], entry))
		}
	}
	return total
}

func rats(numbers []int) []*big.Rat {
	all := []*big.Rat{}
	for _, n := range numbers {
		all = append(all, big.NewRat(int64(n), 1))
	}
	return all
}

// inDiagrams holds the numbers of a sum told in the way s, however great.
func inDiagrams(f impl.Sum) []*big.Rat {
	return addRows(rowsInDiagrams()[f.Way][f.Degree], rats(f.Coefs))
}

// inPowers holds the numbers of a sum told in the way p, whole or not.
func inPowers(f impl.Sum) []*big.Rat {
	return addRows(rowsInPowers()[f.Way][f.Degree], rats(f.Coefs))
}

// wantTurn is what TurnSum is to return, by the signs in the way p.
func wantTurn(f impl.Sum) (impl.Sum, bool) {
	numbers := inPowers(f)
	for i, a := range knownShares()[f.Degree] {
		if (f.Degree-len(a))%2 != 0 {
			numbers[i].Neg(numbers[i])
		}
	}
	return wholeSum("s", f.Degree, addRows(rowsInDiagrams()["p"][f.Degree], numbers))
}

// wantInner is what TurnInner is to return.
func wantInner(t *testing.T, f impl.Sum, g impl.Sum) int {
	t.Helper()
	total := new(big.Rat)
	other := inDiagrams(g)
	for i, n := range inDiagrams(f) {
		total.Add(total, new(big.Rat).Mul(n, other[i]))
	}
	if !total.IsInt() || !total.Num().IsInt64() {
		t.Fatalf("the inner product of %v and %v is %v", f, g, total)
	}
	return int(total.Num().Int64())
}

// wantPositive is what TurnPositive is to return.
func wantPositive(f impl.Sum) bool {
	return !slices.ContainsFunc(inDiagrams(f), func(n *big.Rat) bool { return n.Sign() < 0 })
}

func checkNumber(t *testing.T, name string, of any, got int, ok bool, want int, wanted bool) {
	t.Helper()
	if ok != wanted || got != want {
		t.Errorf("%s of %v is %d, %v, not %d, %v", name, of, got, ok, want, wanted)
	}
}

// turn returns the turned sum, which must be told.
func turn(t *testing.T, f impl.Sum) impl.Sum {
	t.Helper()
	g, ok := impl.TurnSum(f)
	if !ok {
		t.Errorf("TurnSum of %v fails", f)
	}
	return g
}

// norm returns the inner product of a sum and itself, which must be told.
func norm(t *testing.T, f impl.Sum) int {
	t.Helper()
	n, ok := impl.TurnNorm(f)
	if !ok {
		t.Errorf("TurnNorm of %v fails", f)
	}
	return n
}

func inWay(f impl.Sum, way string) impl.Sum {
	return impl.Sum{Way: way, Degree: f.Degree, Coefs: f.Coefs}
}

func TestPromise40TurnSum(t *testing.T) {
	told, beyond := map[string]int{}, 0
	for _, f := range someSums() {
		want, wanted := wantTurn(f)
		g, ok := impl.TurnSum(f)
		checkSum(t, "TurnSum", f, g, ok, want, wanted)
		if !ok {
			beyond++
			continue
		}
		told[f.Way]++
		if back := turn(t, g); !impl.SumSame(back, f) {
			t.Errorf("SumSame does not hold for %v turned twice, %v", f, back)
		}
		if n, m := norm(t, f), norm(t, g); n != m {
			t.Errorf("TurnNorm of %v is %d, turned %d", f, n, m)
		}
	}
	for _, way := range ways() {
		if told[way] < 30 {
			t.Errorf("%d sums told in the way %s are turned", told[way], way)
		}
	}
	if beyond < 20 {
		t.Errorf("%d turned sums beyond CoefMax", beyond)
	}
}

// TestTurnSumKnown holds turned sums that are written out.
func TestTurnSumKnown(t *testing.T) {
	for _, c := range []struct {
		way   string
		coefs []int
		want  []int
	}{
		{"e", []int{1, 0}, []int{1, 0}}, {"e", []int{0, 1}, []int{1, 1}}, {"h", []int{1, 0}, []int{0, 1}}, {"h", []int{0, 1}, []int{1, 1}},
		{"p", []int{1, 0}, []int{-1, 1}}, {"p", []int{0, 1}, []int{1, 1}}, {"m", []int{1, 0}, []int{-1, 1}}, {"m", []int{0, 1}, []int{1, 0}},
		{"s", []int{3, -4}, []int{-4, 3}}, {"s", []int{1, 2, 3}, []int{3, 2, 1}}, {"p", []int{1, 0, 0}, []int{1, -1, 1}},
		{"p", []int{0, 1, 0}, []int{-1, 0, 1}}, {"m", []int{0, 1, 0}, []int{-2, 1, 0}}, {"h", []int{0, 1, 0}, []int{0, 1, 1}},
		{"s", []int{1, 2, 3, 4, 5}, []int{5, 4, 3, 2, 1}},
	} {
		d := map[int]int{2: 2, 3: 3, 5: 4}[len(c.coefs)]
		f := impl.Sum{Way: c.way, Degree: d, Coefs: c.coefs}
		g, ok := impl.TurnSum(f)
		checkSum(t, "TurnSum", f, g, ok, impl.Sum{Way: "s", Degree: d, Coefs: c.want}, true)
	}
}

// TestTurnSumDiagrams: turned diagram sums are those of turned shares, which the degrees 5 and 6 do not just have in the other order.
func TestTurnSumDiagrams(t *testing.T) {
	eachShare(func(d int, a []int) {
		for _, n := range []int{1, coefMax, -coefMax} {
			place := func(b []int) impl.Sum {
				f := impl.Sum{Way: "s", Degree: d, Coefs: make([]int, len(knownShares()[d]))}
				f.Coefs[slices.IndexFunc(knownShares()[d], func(c []int) bool { return slices.Equal(b, c) })] = n
				return f
			}
			g, ok := impl.TurnSum(place(a))
			checkSum(t, "TurnSum", place(a), g, ok, place(turned(t, a)), true)
		}
	})
}

func TestPromise41TurnSumOfChosen(t *testing.T) {
	told := 0
	for _, f := range someSums() {
		if f.Way != "e" {
			continue
		}
		for _, pair := range [][2]impl.Sum{{f, inWay(f, "h")}, {inWay(f, "h"), f}} {
			g, ok := impl.TurnSum(pair[0])
			if !ok {
				continue
			}
			told++
			if !impl.SumSame(g, pair[1]) {
				t.Errorf("SumSame does not hold for %v turned and %v", pair[0], pair[1])
			}
		}
	}
	if told < 60 {
		t.Errorf("%d sums are turned", told)
	}
}

// turnedProduct checks the turned product of two sums, if it and both turned sums are told.
func turnedProduct(t *testing.T, f impl.Sum, g impl.Sum) bool {
	t.Helper()
	h, okh := impl.SumMake(f, g)
	first, okf := impl.TurnSum(f)
	second, okg := impl.TurnSum(g)
	whole, ok := impl.TurnSum(h)
	if !okh || !okf || !okg || !ok {
		return false
	}
	want := productNumbers(first, second)
	if !slices.EqualFunc(rats(plainNumbers(whole)), want, func(x *big.Rat, y *big.Rat) bool { return x.Cmp(y) == 0 }) {
		t.Errorf("TurnSum of the product of %v and %v is %v, told in the way m not %v", f, g, whole, want)
	}
	if made, ok := impl.SumMake(first, second); ok && !impl.SumSame(made, whole) {
		t.Errorf("SumSame does not hold for the product of %v and %v turned, and the product of both turned", f, g)
	}
	return true
}

func TestPromise42TurnSumOfProduct(t *testing.T) {
	told := 0
	for i, f := range someSums() {
		for k, g := range someSums() {
			if f.Degree+g.Degree <= 6 && (i+k)%41 == 0 && turnedProduct(t, f, g) {
				told++
			}
		}
	}
	if told < 500 {
		t.Errorf("%d products turned", told)
	}
}

// TestTurnSumOfProductOfShares has all products of sums of one share each, told in one way.
func TestTurnSumOfProductOfShares(t *testing.T) {
	for _, f := range unitSums(1) {
		for _, g := range unitSums(1) {
			if f.Way == g.Way && f.Degree+g.Degree <= 6 && !turnedProduct(t, f, g) {
				t.Errorf("TurnSum of %v, of %v or of their product fails", f, g)
			}
		}
	}
}

// eachSumPair visits pairs of sums of one degree with numbers of all sizes: of each pair of degree and way, some.
func eachSumPair(visit func(f impl.Sum, g impl.Sum)) {
	for i, f := range mixedSums() {
		for k, g := range mixedSums() {
			if f.Degree == g.Degree && (i*3+k)%7 == f.Degree {
				visit(f, g)
			}
		}
	}
}

func TestPromise43TurnInner(t *testing.T) {
	pairs, both := 0, 0
	eachSumPair(func(f impl.Sum, g impl.Sum) {
		pairs++
		want := wantInner(t, f, g)
		n, ok := impl.TurnInner(f, g)
		checkNumber(t, "TurnInner", []impl.Sum{f, g}, n, ok, want, true)
		n, ok = impl.TurnInner(g, f)
		checkNumber(t, "TurnInner exchanged", []impl.Sum{f, g}, n, ok, want, true)
		first, okf := impl.TurnSum(f)
		second, okg := impl.TurnSum(g)
		if okf && okg {
			both++
			n, ok = impl.TurnInner(first, second)
			checkNumber(t, "TurnInner of both turned", []impl.Sum{f, g}, n, ok, want, true)
		}
	})
	if pairs < 1000 || both < 300 {
		t.Errorf("%d pairs, %d turned", pairs, both)
	}
}

// TestTurnInnerOfFull: by full sums the inner product finds the numbers of plain sums.
func TestTurnInnerOfFull(t *testing.T) {
	for _, f := range unitSums(1) {
		want := plainNumbers(f)
		for k, a := range knownShares()[f.Degree] {
			g := impl.Sum{Way: "h", Degree: f.Degree, Coefs: make([]int, len(want))}
			g.Coefs[k] = 1
			n, ok := impl.TurnInner(f, g)
			checkNumber(t, "TurnInner", []any{f, "and the full sum of", a}, n, ok, want[k], true)
			n, ok = impl.TurnInnerPlain(f, g)
			checkNumber(t, "TurnInnerPlain", []any{f, "and the full sum of", a}, n, ok, want[k], true)
		}
	}
}

// TestTurnInnerApart: two different diagram sums have the inner product 0, and so have two different power sums.
func TestTurnInnerApart(t *testing.T) {
	eachTwin(func(d int, a []int, b []int) {
		for _, way := range []string{"s", "p"} {
			want := 0
			if slices.Equal(a, b) {
				want = map[string]int{"s": 1, "p": factorial(d) / byCycles(d, a)}[way]
			}
			f, _ := impl.SumOf(way, a)
			g, _ := impl.SumOf(way, b)
			n, ok := impl.TurnInner(f, g)
			checkNumber(t, "TurnInner in the way "+way, [][]int{a, b}, n, ok, want, true)
		}
	})
}

func TestPromise44TurnInnerPlain(t *testing.T) {
	pairs := 0
	eachSumPair(func(f impl.Sum, g impl.Sum) {
		pairs++
		n, ok := impl.TurnInnerPlain(f, g)
		checkNumber(t, "TurnInnerPlain", []impl.Sum{f, g}, n, ok, wantInner(t, f, g), true)
		same, oks := impl.TurnInner(f, g)
		if same != n || oks != ok {
			t.Errorf("TurnInnerPlain of %v and %v is %d, %v, TurnInner %d, %v", f, g, n, ok, same, oks)
		}
	})
	if pairs < 1000 {
		t.Errorf("%d pairs", pairs)
	}
}

// TestTurnInnerGreat has the greatest numbers there are, in all pairs of ways.
func TestTurnInnerGreat(t *testing.T) {
	for _, way := range ways() {
		for _, other := range ways() {
			for _, signs := range [][2]int{{1, 1}, {1, -1}, {-1, -1}} {
				f := impl.Sum{Way: way, Degree: 6, Coefs: slices.Repeat([]int{signs[0] * coefMax}, 11)}
				g := impl.Sum{Way: other, Degree: 6, Coefs: slices.Repeat([]int{signs[1] * coefMax}, 11)}
				want := wantInner(t, f, g)
				n, ok := impl.TurnInner(f, g)
				checkNumber(t, "TurnInner", []impl.Sum{f, g}, n, ok, want, true)
				n, ok = impl.TurnInnerPlain(f, g)
				checkNumber(t, "TurnInnerPlain", []impl.Sum{f, g}, n, ok, want, true)
			}
		}
	}
}

func TestPromise45TurnNorm(t *testing.T) {
	for _, f := range someSums() {
		n, ok := impl.TurnNorm(f)
		checkNumber(t, "TurnNorm", f, n, ok, wantInner(t, f, f), true)
		if same, oks := impl.TurnInner(f, f); same != n || !oks {
			t.Errorf("TurnNorm of %v is %d, TurnInner %d, %v", f, n, same, oks)
		}
		count, _ := impl.SumCount(f)
		if n < 0 || (n == 0) != (count == 0) {
			t.Errorf("TurnNorm of %v is %d, SumCount %d", f, n, count)
		}
	}
}

func TestPromise46TurnPower(t *testing.T) {
	whole, parted := 0, 0
	for _, f := range someSums() {
		change, told := impl.SumChange(f, "p")
		exact := inPowers(f)
		for i, a := range knownShares()[f.Degree] {
			n, ok := impl.TurnPower(f, a)
			times, _ := impl.ShareTimes(a)
			want := new(big.Rat).Mul(exact[i], big.NewRat(int64(times), 1))
			if !ok || want.Cmp(big.NewRat(int64(n), 1)) != 0 {
				t.Errorf("TurnPower of %v and %v is %d, %v, not %v", f, a, n, ok, want)
			}
			power, _ := impl.SumOf("p", a)
			if same, oks := impl.TurnInner(f, power); same != n || oks != ok {
				t.Errorf("TurnPower of %v and %v is %d, TurnInner %d, %v", f, a, n, same, oks)
			}
			if told && change.Coefs[i]*times != n {
				t.Errorf("TurnPower of %v and %v is %d, told in the way p it is %v", f, a, n, change)
			}
			if told {
				whole++
			} else {
				parted++
			}
		}
	}
	if whole < 100 || parted < 100 {
		t.Errorf("%d numbers of sums told in the way p, %d of others", whole, parted)
	}
}

func TestTurnPowerKnown(t *testing.T) {
	for _, c := range []struct {
		way  string
		a, b []int
		want int
	}{
		{"s", []int{2, 1}, []int{3}, -1}, {"s", []int{2, 1}, []int{2, 1}, 0}, {"s", []int{2, 1}, []int{1, 1, 1}, 2},
		{"h", []int{3}, []int{3}, 1}, {"e", []int{2}, []int{2}, -1}, {"p", []int{2, 2}, []int{2, 2}, 8}, {"p", []int{2, 2}, []int{4}, 0},
		{"p", []int{1, 1, 1, 1, 1, 1}, []int{1, 1, 1, 1, 1, 1}, 720}, {"m", []int{1, 1}, []int{2}, -1}, {"m", []int{6}, []int{6}, 6},
	} {
		f, _ := impl.SumOf(c.way, c.a)
		n, ok := impl.TurnPower(f, c.b)
		checkNumber(t, "TurnPower", []any{f, c.b}, n, ok, c.want, true)
	}
}

// TestTurnPowerOtherShares: neither what is no share nor a share of another degree will do, nor will either for noughts.
func TestTurnPowerOtherShares(t *testing.T) {
	for _, f := range append(unitSums(1), unitSums(0)...) {
		for _, a := range noShares() {
			n, ok := impl.TurnPower(f, a)
			checkNumber(t, "TurnPower", []any{f, a[:min(len(a), 10)]}, n, ok, 0, false)
		}
		eachShare(func(d int, a []int) {
			if d != f.Degree {
				n, ok := impl.TurnPower(f, a)
				checkNumber(t, "TurnPower", []any{f, a}, n, ok, 0, false)
			}
		})
	}
}

func TestPromise47TurnPositive(t *testing.T) {
	holds, beyond, others := 0, 0, 0
	for _, f := range append(append(someSums(), unitSums(coefMax)...), unitSums(-1)...) {
		positive := impl.TurnPositive(f)
		if want := wantPositive(f); positive != want {
			t.Errorf("TurnPositive of %v is %v", f, positive)
		}
		if !positive {
			others++
			continue
		}
		holds++
		if value := valueAt(t, f, []int{1, 1, 1}); value < 0 {
			t.Errorf("TurnPositive holds for %v, whose value at ones is %d", f, value)
		}
		g, ok := impl.TurnSum(f)
		if !ok {
			beyond++
		} else if !impl.TurnPositive(g) {
			t.Errorf("TurnPositive holds for %v and not for it turned, %v", f, g)
		}
	}
	if holds < 100 || beyond < 5 || others < 100 {
		t.Errorf("TurnPositive holds for %d sums, %d of them beyond CoefMax, and not for %d", holds, beyond, others)
	}
}

// TestTurnPositiveEachNumber has one negative number at each place, the others being great.
func TestTurnPositiveEachNumber(t *testing.T) {
	for _, f := range unitSums(1) {
		if f.Way != "s" {
			continue
		}
		for _, n := range []int{-1, -coefMax, 0, 1} {
			g := impl.Sum{Way: "s", Degree: f.Degree}
			for _, unit := range f.Coefs {
				g.Coefs = append(g.Coefs, coefMax*(1-unit)+n*unit)
			}
			if positive := impl.TurnPositive(g); positive != (n >= 0) {
				t.Errorf("TurnPositive of %v is %v", g, positive)
			}
		}
	}
}

// TestTurnSumLimits has turned sums with CoefMax as greatest number, and with just more, at either end.
func TestTurnSumLimits(t *testing.T) {
	for d := 2; d <= 6; d++ {
		size := len(knownShares()[d])
		for _, sign := range []int{1, -1} {
			for k := range 4 {
				for way, places := range map[string][2]int{"h": {size - 1, size - 2}, "e": {0, 1}} {
					f := impl.Sum{Way: way, Degree: d, Coefs: make([]int, size)}
					f.Coefs[0], f.Coefs[1] = sign*(coefMax-1), sign*k
					want := impl.Sum{}
					if k <= 1 {
						want = impl.Sum{Way: "s", Degree: d, Coefs: make([]int, size)}
						want.Coefs[places[0]] = sign * (coefMax - 1 + k)
						want.Coefs[places[1]] = sign * k
					}
					g, ok := impl.TurnSum(f)
					checkSum(t, "TurnSum", f, g, ok, want, k <= 1)
				}
			}
		}
	}
}

// TestTurnBeyond has sums that are beyond CoefMax told in the way s: just what is to be a sum fails.
func TestTurnBeyond(t *testing.T) {
	for _, sign := range []int{1, -1} {
		f := impl.Sum{Way: "h", Degree: 2, Coefs: []int{sign * coefMax, sign * coefMax}}
		g, ok := impl.TurnSum(f)
		checkSum(t, "TurnSum", f, g, ok, impl.Sum{}, false)
		n, ok := impl.TurnNorm(f)
		checkNumber(t, "TurnNorm", f, n, ok, 5*coefMax*coefMax, true)
		n, ok = impl.TurnInner(f, f)
		checkNumber(t, "TurnInner", f, n, ok, 5*coefMax*coefMax, true)
		n, ok = impl.TurnInnerPlain(f, f)
		checkNumber(t, "TurnInnerPlain", f, n, ok, 5*coefMax*coefMax, true)
		n, ok = impl.TurnPower(f, []int{1, 1})
		checkNumber(t, "TurnPower", f, n, ok, 3*sign*coefMax, true)
		n, ok = impl.TurnPower(f, []int{2})
		checkNumber(t, "TurnPower", f, n, ok, sign*coefMax, true)
		if positive := impl.TurnPositive(f); positive != (sign == 1) {
			t.Errorf("TurnPositive of %v is %v", f, positive)
		}
	}
}

func TestTurnInnerOfTwoDegrees(t *testing.T) {
	for _, k := range []int{0, 1} {
		for _, f := range unitSums(k) {
			for _, g := range unitSums(k) {
				if f.Degree == g.Degree {
					continue
				}
				n, ok := impl.TurnInner(f, g)
				checkNumber(t, "TurnInner", []impl.Sum{f, g}, n, ok, 0, false)
				n, ok = impl.TurnInnerPlain(f, g)
				checkNumber(t, "TurnInnerPlain", []impl.Sum{f, g}, n, ok, 0, false)
			}
		}
	}
}

// TestTurnDegreeNought: the one share is its own turned one, and inner products are those of numbers.
func TestTurnDegreeNought(t *testing.T) {
	numbers := []int{0, 1, -3, coefMax, -coefMax}
	for _, way := range ways() {
		for _, n := range numbers {
			f := impl.Sum{Way: way, Degree: 0, Coefs: []int{n}}
			g, ok := impl.TurnSum(f)
			checkSum(t, "TurnSum", f, g, ok, impl.Sum{Way: "s", Degree: 0, Coefs: []int{n}}, true)
			square, ok := impl.TurnNorm(f)
			checkNumber(t, "TurnNorm", f, square, ok, n*n, true)
			for _, a := range [][]int{nil, {}} {
				power, ok := impl.TurnPower(f, a)
				checkNumber(t, "TurnPower", f, power, ok, n, true)
			}
			if positive := impl.TurnPositive(f); positive != (n >= 0) {
				t.Errorf("TurnPositive of %v is %v", f, positive)
			}
			for _, other := range ways() {
				for _, k := range numbers {
					h := impl.Sum{Way: other, Degree: 0, Coefs: []int{k}}
					product, ok := impl.TurnInner(f, h)
					checkNumber(t, "TurnInner", []impl.Sum{f, h}, product, ok, n*k, true)
					product, ok = impl.TurnInnerPlain(f, h)
					checkNumber(t, "TurnInnerPlain", []impl.Sum{f, h}, product, ok, n*k, true)
				}
			}
		}
	}
}

// TestTurnNoughts: noughts stay noughts, and are not negative.
func TestTurnNoughts(t *testing.T) {
	for d, shares := range knownShares() {
		for _, way := range ways() {
			f := impl.Sum{Way: way, Degree: d, Coefs: make([]int, len(shares))}
			g, ok := impl.TurnSum(f)
			checkSum(t, "TurnSum", f, g, ok, inWay(f, "s"), true)
			n, ok := impl.TurnNorm(f)
			checkNumber(t, "TurnNorm", f, n, ok, 0, true)
			if !impl.TurnPositive(f) {
				t.Errorf("TurnPositive does not hold for %v", f)
			}
			for _, a := range shares {
				n, ok = impl.TurnPower(f, a)
				checkNumber(t, "TurnPower", []any{f, a}, n, ok, 0, true)
			}
			h := impl.Sum{Way: "p", Degree: d, Coefs: slices.Repeat([]int{coefMax}, len(shares))}
			for _, pair := range [][2]impl.Sum{{f, h}, {h, f}} {
				n, ok = impl.TurnInner(pair[0], pair[1])
				checkNumber(t, "TurnInner", pair, n, ok, 0, true)
				n, ok = impl.TurnInnerPlain(pair[0], pair[1])
				checkNumber(t, "TurnInnerPlain", pair, n, ok, 0, true)
			}
		}
	}
}

// beside holds sums, and shares, that would do for a sum of the degree of what is told, and some others.
func beside(f impl.Sum) ([]impl.Sum, [][]int) {
	sums := []impl.Sum{{Way: "m", Degree: 0, Coefs: []int{1}}, {Way: "s", Degree: 6, Coefs: make([]int, 11)}, f}
	shares := [][]int{{}, {2, 1}, {6}, {7}, {0}}
	if known := knownShares(); f.Degree >= 0 && f.Degree < len(known) {
		sums = append(sums, impl.Sum{Way: "h", Degree: f.Degree, Coefs: make([]int, len(known[f.Degree]))})
		shares = append(shares, known[f.Degree]...)
	}
	return sums, shares
}

func TestTurnNoSums(t *testing.T) {
	for _, f := range noSums() {
		g, ok := impl.TurnSum(f)
		checkSum(t, "TurnSum", brief(f), g, ok, impl.Sum{}, false)
		n, ok := impl.TurnNorm(f)
		checkNumber(t, "TurnNorm", brief(f), n, ok, 0, false)
		if impl.TurnPositive(f) {
			t.Errorf("TurnPositive holds for no sum %v", brief(f))
		}
		sums, shares := beside(f)
		for _, h := range sums {
			for _, pair := range [][2]impl.Sum{{f, h}, {h, f}} {
				n, ok = impl.TurnInner(pair[0], pair[1])
				checkNumber(t, "TurnInner", brief(f), n, ok, 0, false)
				n, ok = impl.TurnInnerPlain(pair[0], pair[1])
				checkNumber(t, "TurnInnerPlain", brief(f), n, ok, 0, false)
			}
		}
		for _, a := range shares {
			n, ok = impl.TurnPower(f, a)
			checkNumber(t, "TurnPower", []any{brief(f), a}, n, ok, 0, false)
		}
	}
}

// TestTurnMemory: arguments stay as they are, and no result shares memory with them or with a result told again.
func TestTurnMemory(t *testing.T) {
	for _, f := range append(unitSums(6), unitSums(0)...) {
		g := impl.Sum{Way: f.Way, Degree: f.Degree, Coefs: spaced(f.Coefs)}
		h := impl.Sum{Way: f.Way, Degree: f.Degree, Coefs: spaced(f.Coefs)}
		a := knownShares()[f.Degree][0]
		b := spaced(a)
		first, second := turn(t, g), turn(t, g)
		apart(t, "TurnSum", g.Coefs, first.Coefs, second.Coefs)
		scribble(first.Coefs)
		checkSum(t, "TurnSum again", f, turn(t, g), true, second, true)
		impl.TurnInner(g, h)
		impl.TurnInnerPlain(g, h)
		impl.TurnNorm(g)
		impl.TurnPower(g, b)
		impl.TurnPositive(g)
		unspoilt(t, "a function of a sum", g.Coefs, f.Coefs)
		unspoilt(t, "a function of two sums", h.Coefs, f.Coefs)
		unspoilt(t, "TurnPower", b, a)
	}
}

// TestTurnAtOnce turns sums at once: what one call finds does not show in another one.
func TestTurnAtOnce(t *testing.T) {
	var calls sync.WaitGroup
	for _, f := range unitSums(1) {
		if f.Degree < 5 {
			continue
		}
		want, wanted := wantTurn(f)
		calls.Add(1)
		go func() {
			defer calls.Done()
			g, ok := impl.TurnSum(f)
			checkSum(t, "TurnSum", f, g, ok, want, wanted)
		}()
	}
	calls.Wait()
}
