package tests

import (
	"math"
	"regexp"
	"slices"
	"strings"
	"sync"
	"testing"

	"loop.example/symmetricsums/impl"
)

// meaning is what a term stands for: the numbers of a sum told in the way m.
type meaning struct {
	degree  int
	numbers []int
}

func (m meaning) sum() impl.Sum {
	return impl.Sum{Way: "m", Degree: m.degree, Coefs: m.numbers}
}

func (m meaning) same(other meaning) bool {
	return m.degree == other.degree && slices.Equal(m.numbers, other.numbers)
}

// at adds up plain sums straight from their definition.
func (m meaning) at(x []int) int {
	value := 0
	for i, a := range knownShares()[m.degree] {
		if m.numbers[i] != 0 {
			value += m.numbers[i] * plainTermsOf(len(x), a).at(x)
		}
	}
	return value
}

var keptPlainTerms sync.Map

func plainTermsOf(n int, a []int) terms {
	key := digits(append([]int{n}, a...))
	if kept, ok := keptPlainTerms.Load(key); ok {
		return kept.(terms)
	}
	made := plainTerms(n, a)
	keptPlainTerms.Store(key, made)
	return made
}

func (m meaning) plus(other meaning) (meaning, bool) {
	if m.degree != other.degree {
		return meaning{}, false
	}
	numbers := []int{}
	for i, n := range m.numbers {
		numbers = append(numbers, n+other.numbers[i])
	}
	return meaning{m.degree, numbers}, true
}

func (m meaning) times(other meaning) (meaning, bool) {
	if m.degree+other.degree > 6 {
		return meaning{}, false
	}
	numbers := []int{}
	for _, n := range productNumbers(m.sum(), other.sum()) {
		numbers = append(numbers, int(n.Num().Int64()))
	}
	return meaning{m.degree + other.degree, numbers}, true
}

// letterMeanings holds what all letters with the digits of shares stand for.
var letterMeanings = sync.OnceValue(func() map[string]meaning {
	all := map[string]meaning{}
	for _, way := range ways() {
		eachShare(func(d int, a []int) {
			all[way+digits(a)] = meaning{d, wayTables()[way][d][placeIn(a)]}
		})
	}
	return all
})

// reading finds what texts stand for, straight from the definition: a text is tried in all ways in which it may have been put together.
type reading map[string]*meaning

func (r reading) of(text string) (meaning, bool) {
	kept, known := r[text]
	if !known {
		kept = r.find(text)
		r[text] = kept
	}
	if kept == nil {
		return meaning{}, false
	}
	return *kept, true
}

func (r reading) find(text string) *meaning {
	if m, ok := letterMeanings()[text]; ok {
		return &m
	}
	if strings.HasPrefix(text, "-") {
		if m, ok := r.of(text[1:]); ok {
			numbers := []int{}
			for _, n := range m.numbers {
				numbers = append(numbers, -n)
			}
			return &meaning{m.degree, numbers}
		}
	}
	if !strings.HasPrefix(text, "(") || !strings.HasSuffix(text, ")") {
		return nil
	}
	for i, sign := range []byte(text) {
		if sign != '+' && sign != '*' {
			continue
		}
		first, okf := r.of(text[1:i])
		if !okf {
			continue
		}
		second, ok := r.of(text[i+1 : len(text)-1])
		if !ok {
			continue
		}
		made, ok := first.plus(second)
		if sign == '*' {
			made, ok = first.times(second)
		}
		if ok {
			return &made
		}
	}
	return nil
}

// wantTerm is what a text stands for, if it is a term.
func (r reading) wantTerm(text string) (meaning, bool) {
	if len(text) > 40 {
		return meaning{}, false
	}
	return r.of(text)
}

// put returns what two terms make by a sign.
func put(first string, sign string, second string) string {
	return "(" + first + sign + second + ")"
}

// drawTerm puts a term of a degree together, with about so many letters, always the same one for a drawer.
func drawTerm(next func(limit int) int, degree int, letters int) string {
	draw := func(n int) int { return (next(1000) + 1000) % n }
	if draw(4) == 0 {
		return strings.Repeat("-", 1+draw(5)/4) + drawTerm(next, degree, letters)
	}
	if letters <= 1 {
		shares := knownShares()[degree]
		return ways()[draw(5)] + digits(shares[draw(len(shares))])
	}
	some := 1 + draw(letters-1)
	if draw(2) == 0 {
		return put(drawTerm(next, degree, some), "+", drawTerm(next, degree, letters-some))
	}
	first := draw(degree + 1)
	return put(drawTerm(next, first, some), "*", drawTerm(next, degree-first, letters-some))
}

// someTermTexts holds terms of all letters and shares, with all numbers of bytes up to 40.
var someTermTexts = sync.OnceValue(func() []string {
	all := []string{}
	for _, way := range ways() {
		eachShare(func(_ int, a []int) {
			letter := way + digits(a)
			all = append(all, letter, "-"+letter, "--"+letter, "---"+letter, put(letter, "*", "e"), put("m", "*", "-"+letter), put(letter, "+", "-"+letter))
		})
	}
	next := drawer(110)
	for n := range 1800 {
		if s := drawTerm(next, n%7, n%9+2); len(s) <= 40 {
			all = append(all, s)
		}
	}
	for n := range 40 {
		all = append(all, strings.Repeat("-", n)+ways()[n%5], "-(-(m*h)"+"+"+strings.Repeat("-", n%29)+"p)")
	}
	all = append(all, longTerms()...)
	slices.Sort(all)
	return slices.Compact(all)
})

// longTerms holds terms of exactly 40 bytes.
func longTerms() []string {
	all := []string{strings.Repeat("-", 39) + "s", strings.Repeat("-", 33) + "h111111", strings.Repeat("-", 35) + "(e*p)"}
	next := drawer(111)
	for n := range 8000 {
		if s := drawTerm(next, n%7, n%5+6); len(s) == 40 {
			all = append(all, s)
		} else if n%100 == 0 && len(s) < 40 {
			all = append(all, strings.Repeat("-", 40-len(s))+s)
		}
	}
	return all
}

// oneReading keeps what someTermTexts stand for.
var oneReading = sync.OnceValue(func() map[string]meaning {
	all := map[string]meaning{}
	r := reading{}
	for _, s := range someTermTexts() {
		m, ok := r.wantTerm(s)
		if !ok {
			panic(s + " is no term")
		}
		all[s] = m
	}
	return all
})

// eachTerm visits terms with what they stand for.
func eachTerm(visit func(s string, want meaning)) {
	for _, s := range someTermTexts() {
		visit(s, oneReading()[s])
	}
}

// noTerms holds texts that are no terms.
func noTerms() []string {
	all := []string{
		"", "a", "x", "M", "E", "S", "1", "21", "0", "m0", "e10", "p01", "h12", "s123", "s113", "m7", "e8", "e9", "m61", "m16", "h331", "s1111111", "p222222", "m99999999999999999999",
		"m 1", " m1", "m1 ", "e1\n", "\te1", "( e1+e1)", "(e1 +e1)", "(e1+ e1)", "(e1+e1 )", "- e1", "m1,1", "m-1", "m+1", "m.", "em", "e1e1", "e1m", "mm", "e1 + e1",
		"-", "--", "---", "+", "*", "(", ")", "()", "(+)", "(*)", "+m", "*m", "m-", "m+", "m*", "m--", "-m-", "m+m", "m*m", "e1+e1", "e1*e1", "-e1+e1", "(m)", "(e21)", "((e1+e1))", "(-m)", "-(m)",
		"(e1+e1", "(e1*e1", "e1+e1)", "e1*e1)", "(e1", "e1)", "(e1+e1))", "((e1+e1)", "(e1+e1)(", "(e1+e1)e1", "(e1+e1)1", "(e1+e1)+e1", "(e1+e1)-", "e1(", "(e1+)", "(e1*)", "(+e1)", "(*e1)", "(e1-e1)", "(e1/e1)", "(e1e1)",
		"(e1++e1)", "(e1**e1)", "(e1+*e1)", "(e1*+e1)", "(e1+-)", "(-+e1)", "(e1+e1+e1)", "(e1*e1*e1)", "(e1+(e1+e1)", "((e1+e1)+e1", "(e1+e1)+(e1+e1)", "[e1+e1]", "{e1*e1}", "(e1+e1]", "(-)", "-()", "-(", "-)",
		"(m+m1)", "(m1+m)", "(e1+e2)", "(e1+e11)", "(h6+h5)", "(p+s111111)", "(e1+-e2)", "((e1*e1)+e1)", "(e2+(e1+e1))", "(e1*(e1+e2))", "-(e1+e2)", "(e+(p*p1))",
		"(e6*e1)", "(e1*e6)", "(e3*e4)", "(e111*e1111)", "(e6*e6)", "(-e4*-e3)", "((e3*e3)*e1)", "(e1*(e3*e3))", "((e2*e2)*e3)", "((e4+e4)*(e3+e3))", "-(e5*e2)", "((e6*e1)+(e6*e1))", "((e6*e1)*m)",
		"m\x00", "\x00", "\x00m", "m1\x00", "\xff", "m\xff", "\xffm", "\xe9", "m\xc3\xa9", "é", "m1é", "mé", "(m+m\xff)", "(m\xff+m)", "(m+m)\xff", "-\xff", "\xef\xbb\xbfm", "−m", "m²", "m１", "(m×m)", "（m+m）", "m٣",
		"m\xb1", "\xedm", "m\x80", "m/", "m:", "e1/", "e1:", "(e1,e1)", "(e1.e1)", "(e1;e1)", "(e1)e1)", "(e1(e1)", "e1e", "e1-e1", "\"m\"", "'m'", "m1m1", "(m1m1)", "ｍ", "\u202em", "l1", "n1", "d1", "f1", "g1", "i1", "o1", "q1", "r1", "t1",
	}
	for _, s := range longTerms() {
		all = append(all, "-"+s, s+")", s+"1", s+" ", "("+s, put(s, "*", "m"), put(s, "+", s))
	}
	for _, n := range []int{40, 41, 255, 256, 257, 1000, 1 << 16} {
		all = append(all, strings.Repeat("-", n)+"m", strings.Repeat("(", n)+"m", strings.Repeat("(", n)+"m"+strings.Repeat("*m)", n), "m"+strings.Repeat("1", n), strings.Repeat("-", n), strings.Repeat("(", n), strings.Repeat("m", n), strings.Repeat("0", n), "m"+strings.Repeat("0", n), "m1"+strings.Repeat(" ", n))
	}
	return all
}

// briefText shortens a text for a message.
func briefText(s string) string {
	return s[:min(len(s), 50)]
}

func checkText(t *testing.T, name string, of any, got string, ok bool, want string, wanted bool) {
	t.Helper()
	if ok != wanted || got != want {
		t.Errorf("%s of %q is %q, %v, not %q, %v", name, of, briefText(got), ok, want, wanted)
	}
}

// termPoints holds points of no number and of up to five.
func termPoints() [][]int {
	return [][]int{{}, {1}, {-3}, {5}, {1, 2}, {1, 2, -1}, {0, -4, 0}, {3, -1, 2}, {-5, 2, 1, 3}, {1, 1, 1, 1, 1}, {1, -2, 3, -4, 5}, {5, 4, 3, 2, -1}}
}

// fullPoints holds points of five numbers at the limits.
func fullPoints() [][]int {
	return [][]int{{5, 5, 5, 5, 5}, {-5, -5, -5, -5, -5}, {5, -5, 5, -5, 5}}
}

func termAt(t *testing.T, s string, x []int) int {
	t.Helper()
	value, ok := impl.TermAt(s, x)
	if !ok {
		t.Errorf("TermAt of %q at %v fails", s, x)
	}
	return value
}

func TestPromise94TermIn(t *testing.T) {
	less, full := 0, 0
	for _, s := range someTermTexts() {
		if !impl.TermIn(s) {
			t.Errorf("TermIn does not hold for %q", s)
		}
		if want := len(s) < 40; impl.TermIn("-"+s) != want {
			t.Errorf("TermIn of %q with - in front is not %v", s, want)
		}
		for _, more := range []string{s + ")", s + "(", "(" + s, "(" + s + ")", ")" + s, s + "-", s + "+", s + "*", s + " ", s + s} {
			if impl.TermIn(more) {
				t.Errorf("TermIn holds for %q", more)
			}
		}
		if len(s) < 40 {
			less++
		} else {
			full++
		}
	}
	if less < 1500 || full < 100 {
		t.Errorf("%d terms of less than 40 bytes, %d of 40", less, full)
	}
	for _, s := range noTerms() {
		if impl.TermIn(s) {
			t.Errorf("TermIn holds for %q", briefText(s))
		}
	}
}

// checkTermIn compares TermIn and TermDegree with the definition, for any text.
func checkTermIn(t *testing.T, r reading, s string) bool {
	t.Helper()
	want, ok := r.wantTerm(s)
	if impl.TermIn(s) != ok {
		t.Errorf("TermIn of %q is not %v", s, ok)
	}
	if degree, okd := impl.TermDegree(s); okd != ok || degree != want.degree {
		t.Errorf("TermDegree of %q is %d, %v, not %d, %v", s, degree, okd, want.degree, ok)
	}
	return ok
}

// TestTermInShort has all texts of up to seven bytes of some.
func TestTermInShort(t *testing.T) {
	r := reading{}
	count := 0
	for _, bytes := range []string{"m16-(+*)", "ph3(*)-0"} {
		texts := []string{""}
		for range 7 {
			longer := []string{}
			for _, s := range texts {
				for _, b := range bytes {
					longer = append(longer, s+string(b))
				}
			}
			for _, s := range longer {
				m, ok := meaning{}, false
				if !hopeless(s) {
					m, ok = r.wantTerm(s)
				}
				if degree, got := impl.TermDegree(s); got != ok || degree != m.degree || impl.TermIn(s) != ok {
					t.Fatalf("TermDegree of %q is %d, %v, not %d, %v", s, degree, got, m.degree, ok)
				}
				if ok {
					count++
				}
			}
			texts = longer
		}
	}
	if count < 190 {
		t.Errorf("%d terms", count)
	}
}

// hopeless reports whether a text has not as many signs + and * as brackets of each kind, or not one letter more: it is no term then.
func hopeless(s string) bool {
	signs := strings.Count(s, "+") + strings.Count(s, "*")
	letters := 0
	for _, way := range ways() {
		letters += strings.Count(s, way)
	}
	return strings.Count(s, "(") != signs || strings.Count(s, ")") != signs || letters != signs+1
}

// TestTermInAltered has terms with one byte changed, put in or left out, in all ways, and with two bytes exchanged.
func TestTermInAltered(t *testing.T) {
	r := reading{}
	few := []string{
		"m", "e6", "s321", "p111111", "-h2", "--s", "(m+m)", "(e*h)", "(e1+p1)", "(h21*s3)", "-(e4*-m11)", "((e1*e1)*e4)", "(p2+(s1*h1))", "((m+m)*(e+-p))", "-(-(e3+e3)*-(s2+m11))",
		"(s+(s+(s*s)))", "(((p1*p1)+p2)*((p1*p1)+p2))", "((p1*(p1*p1))*(p1*(p1*p1)))", strings.Repeat("-", 37) + "s21", strings.Repeat("-", 35) + "(e*p)", "((h1+(h1+h1))*((e2+e2)*(p111+(m21+s3))))",
	}
	good, bad := 0, 0
	for _, s := range few {
		altered := []string{s}
		for i := range len(s) + 1 {
			for b := range 256 {
				altered = append(altered, s[:i]+string([]byte{byte(b)})+s[i:])
				if i < len(s) {
					altered = append(altered, s[:i]+string([]byte{byte(b)})+s[i+1:])
				}
			}
			if i < len(s) {
				altered = append(altered, s[:i]+s[i+1:], s[:i], s[i:])
			}
			if i > 0 && i < len(s) {
				altered = append(altered, s[:i-1]+s[i:i+1]+s[i-1:i]+s[i+1:])
			}
		}
		for _, each := range altered {
			if checkTermIn(t, r, each) {
				good++
			} else {
				bad++
			}
		}
	}
	if good < 1000 || bad < 10000 {
		t.Errorf("%d terms, %d others", good, bad)
	}
}

// TestTermInLetters has all letters with up to seven digits that are parts up to 7, and with a few others.
func TestTermInLetters(t *testing.T) {
	for _, way := range ways() {
		good := 0
		for n := range 6 {
			for _, a := range lists(n, 0, 7) {
				d, ok := 0, naiveShare(a)
				if ok {
					d = sum(a)
					good++
				}
				got, okd := impl.TermDegree(way + digits(a))
				checkNumber(t, "TermDegree", way+digits(a), got, okd, d, ok)
				if impl.TermIn(way+digits(a)) != ok {
					t.Errorf("TermIn of %s%v is not %v", way, a, ok)
				}
			}
		}
		if good != 29 { // all shares but six ones
			t.Errorf("%d shares", good)
		}
	}
}

func TestTermInKnown(t *testing.T) {
	for s, want := range map[string]bool{
		"m": true, "e": true, "h": true, "p": true, "s": true, "s21": true, "m6": true, "p111111": true, "--m": true, "-(e1+-e1)": true, "(m+m)": true, "(m*m)": true, "(e3*e3)": true,
		"(e6*p)": true, "(p*e6)": true, "((e6*p)+h6)": true, "(e6+(e1*e5))": true, "(-e1+-e1)": true, "(--e1*e1)": true, "((m*m)*(m*m))": true, "(((((m*m)*m)*m)*m)*m)": true,
		strings.Repeat("-", 39) + "m": true, strings.Repeat("-", 40) + "m": false, strings.Repeat("-", 33) + "e111111": true, strings.Repeat("-", 34) + "e111111": false,
		"((((((m*m)*m)*m)*m)*m)*(m*(m*m)))": true, "((((((m*m)*m)*m)*m)*m)*(m*(m*(m*m))))": true, "((((((m*m)*m)*m)*m)*m)*(m*(m*(m*-m))))": true,
		"((((((m*m)*m)*m)*m)*m)*(m*(m*(m*--m))))": true, "((((((m*m)*m)*m)*m)*m)*(m*(m*(m*---m))))": true, "((((((m*m)*m)*m)*m)*m)*(m*(m*(m*----m))))": false,
	} {
		if impl.TermIn(s) != want {
			t.Errorf("TermIn of %q, of %d bytes, is not %v", s, len(s), want)
		}
	}
}

func TestPromise95TermDegree(t *testing.T) {
	told, seen := 0, map[int]int{}
	eachTerm(func(s string, want meaning) {
		degree, ok := impl.TermDegree(s)
		checkNumber(t, "TermDegree", s, degree, ok, want.degree, true)
		seen[degree]++
		if len(s) > 36 {
			degree, ok = impl.TermDegree(put(s, "*", "e"))
			checkNumber(t, "TermDegree", put(s, "*", "e"), degree, ok, 0, false)
			return
		}
		told++
		for _, more := range []string{put(s, "*", "e"), "-" + s, put("p", "*", s), "--" + s} {
			degree, ok = impl.TermDegree(more)
			checkNumber(t, "TermDegree", more, degree, ok, want.degree, true)
		}
	})
	for d := range 7 {
		if seen[d] < 50 {
			t.Errorf("%d terms of degree %d", seen[d], d)
		}
	}
	if told < 1000 {
		t.Errorf("%d terms of at most 36 bytes", told)
	}
}

func TestTermDegreeKnown(t *testing.T) {
	for s, want := range map[string]int{
		"m": 0, "p": 0, "e1": 1, "h321": 6, "s222": 6, "-p5": 5, "---m11": 2, "(e1+h1)": 1, "(e1*h1)": 2, "(m+(p*s))": 0, "(e*h6)": 6, "(e3*h3)": 6, "((e1*e1)+p2)": 2, "((e1+h1)*(p2+s11))": 3, "(-e1*--e2)": 3, "-(e2*(e2*e2))": 6,
		"(e21+-e21)": 3, "((e1+-e1)*e2)": 3, strings.Repeat("-", 38) + "m6": 6, strings.Repeat("-", 39) + "m": 0,
	} {
		degree, ok := impl.TermDegree(s)
		checkNumber(t, "TermDegree", s, degree, ok, want, true)
	}
}

func TestPromise96TermSum(t *testing.T) {
	noughts := 0
	eachTerm(func(s string, want meaning) {
		f, ok := impl.TermSum(s)
		checkSum(t, "TermSum", s, f, ok, want.sum(), true)
		if n, okc := impl.SumCount(f); okc && n == 0 {
			noughts++
		}
		degree, okd := impl.TermDegree(s)
		checkNumber(t, "TermDegree", s, degree, okd, f.Degree, true)
		for _, x := range [][]int{{1, 2, -1}, {}, {2, -3, 1, 4, 2}} {
			value, oka := impl.TermAt(s, x)
			checkNumber(t, "TermAt", s, value, oka, valueAt(t, f, x), true)
		}
	})
	if noughts < 100 {
		t.Errorf("%d sums without a number", noughts)
	}
}

func TestTermSumKnown(t *testing.T) {
	for _, c := range []struct {
		term  string
		d     int
		coefs []int
	}{
		{"m", 0, []int{1}}, {"e", 0, []int{1}}, {"h", 0, []int{1}}, {"p", 0, []int{1}}, {"s", 0, []int{1}}, {"-p", 0, []int{-1}}, {"--p", 0, []int{1}}, {"(p+p)", 0, []int{2}}, {"(s+-m)", 0, []int{0}},
		{"m21", 3, []int{0, 1, 0}}, {"e21", 3, []int{0, 1, 3}}, {"h21", 3, []int{1, 2, 3}}, {"p21", 3, []int{1, 1, 0}}, {"s21", 3, []int{0, 1, 2}}, {"-s21", 3, []int{0, -1, -2}},
		{"(e1*e1)", 2, []int{1, 2}}, {"(e1+e1)", 1, []int{2}}, {"(p2+-(e1*e1))", 2, []int{0, -2}}, {"((m+m)*m1)", 1, []int{2}}, {"(m11*m1)", 3, []int{0, 1, 3}}, {"(h2*-e1)", 3, []int{-1, -2, -3}},
		{"(e1+-e1)", 1, []int{0}}, {"((e2+-e2)*h21)", 5, []int{0, 0, 0, 0, 0, 0, 0}}, {"(-e1*-e1)", 2, []int{1, 2}}, {"-(-e1*-e1)", 2, []int{-1, -2}}, {"((e1*e1)+-(p2+(e2+e2)))", 2, []int{0, 0}},
		{"(p6*m)", 6, []int{1, 0, 0, 0, 0, 0, 0, 0, 0, 0, 0}}, {"e6", 6, []int{0, 0, 0, 0, 0, 0, 0, 0, 0, 0, 1}}, {"h6", 6, []int{1, 1, 1, 1, 1, 1, 1, 1, 1, 1, 1}},
		{"p111111", 6, []int{1, 6, 15, 30, 20, 60, 120, 90, 180, 360, 720}}, {"(m111*(m11*m1))", 6, []int{0, 0, 0, 0, 0, 1, 3, 3, 8, 22, 60}},
	} {
		f, ok := impl.TermSum(c.term)
		checkSum(t, "TermSum", c.term, f, ok, impl.Sum{Way: "m", Degree: c.d, Coefs: c.coefs}, true)
	}
}

// mostProducts is the greatest number of products of letters that a term of at most so many bytes stands for, with two signs put
// wherever there is room for two terms.
func mostProducts(bytes int) int {
	most := make([]int, bytes+1)
	for n := 1; n <= bytes; n++ {
		most[n] = 1
		for first := 1; first+1+3 <= n; first++ {
			second := n - 3 - first
			most[n] = max(most[n], most[first]+most[second], most[first]*most[second])
		}
	}
	return most[bytes]
}

// TestTermSumsInRange: a product of letters has no number beyond 720, that of six sums of 1, so that no term has one beyond CoefMax.
func TestTermSumsInRange(t *testing.T) {
	most := mostProducts(40)
	if most != 36 || most*720 > coefMax {
		t.Errorf("terms stand for up to %d products", most)
	}
	for _, way := range ways() {
		for d, table := range wayTables()[way] {
			for _, row := range table {
				for k, entry := range row {
					if most := wayTables()["h"][d][len(row)-1][k]; entry < 0 || entry > most {
						t.Errorf("%d is not from 0 to %d", entry, most)
					}
				}
			}
		}
	}
	great := "((m+(m+m))*((m+(m+m))*((m+m)*h111111)))"
	for s, factor := range map[string]int{great: 18, "-" + great: -18, "((p+(p+p))*((s+(s+s))*(-(e+e)*e111111)))": -18} {
		want := impl.Sum{Way: "m", Degree: 6}
		for _, entry := range wayTables()["h"][6][10] {
			want.Coefs = append(want.Coefs, factor*entry)
		}
		f, ok := impl.TermSum(s)
		checkSum(t, "TermSum", s, f, ok, want, true)
		if f.Coefs[10] != factor*720 {
			t.Errorf("TermSum of %q has %d", s, f.Coefs[10])
		}
		for _, x := range fullPoints() {
			value, oka := impl.TermAt(s, x)
			checkNumber(t, "TermAt", s, value, oka, factor*int(math.Pow(float64(sum(x)), 6)), true)
		}
	}
}

func TestPromise97TermAt(t *testing.T) {
	eachTerm(func(s string, want meaning) {
		tidy, ok := impl.TermTidy(s)
		if !ok {
			t.Errorf("TermTidy of %q fails", s)
		}
		for i, x := range append(termPoints(), fullPoints()...) {
			if i%5 != len(s)%5 && len(x) != 0 {
				continue
			}
			for _, y := range [][]int{x, backwards(x)} {
				value, oka := impl.TermAt(s, y)
				checkNumber(t, "TermAt", []any{s, y}, value, oka, want.at(x), true)
			}
			value, oka := impl.TermAt(tidy, x)
			checkNumber(t, "TermAt of TermTidy", []any{s, x}, value, oka, want.at(x), true)
		}
	})
}

func TestTermAtKnown(t *testing.T) {
	for _, c := range []struct {
		term string
		x    []int
		want int
	}{
		{"m", []int{}, 1}, {"p", []int{}, 1}, {"e", nil, 1}, {"h", []int{0}, 1}, {"s", []int{1, 2, 3, 4, 5}, 1}, {"p", []int{1, 2, 3, 4, 5}, 1}, {"-p", nil, -1}, {"(p+p)", nil, 2}, {"p1", nil, 0}, {"(p1+p1)", nil, 0}, {"h6", nil, 0}, {"(m*e1)", nil, 0},
		{"(e1*e1)", []int{1, 2}, 9}, {"(e1+e1)", []int{1, 2}, 6}, {"-(e1*e1)", []int{1, 2}, -9}, {"--e2", []int{3, -4}, -12}, {"m21", []int{1, 2}, 6}, {"s21", []int{1, 2}, 6}, {"s21", []int{1, 2, 3}, 60}, {"h2", []int{1, 2}, 7}, {"p2", []int{1, -2}, 5},
		{"(p2+-(e1*e1))", []int{2, 3, 5}, -62}, {"((e1+e1)*(h2+-p2))", []int{2, 3, 1, 1, 1}, 16 * 24}, {"(-e1*-h1)", []int{-5, 1}, 16}, {"(e6*m)", []int{1, 2, 3, 4, 5}, 0}, {"(e5*e1)", []int{1, 2, 3, 4, 5}, 1800}, {"s321", []int{1, 1, 1}, 8}, {"s111", []int{4, 5}, 0},
		{"p6", []int{5, -5, 5, -5, 5}, 78125}, {"h111111", []int{5, 5, 5, 5, 5}, 244140625}, {"(p111*-p111)", []int{-5, -5, -5, -5, -5}, -244140625},
	} {
		value, ok := impl.TermAt(c.term, c.x)
		checkNumber(t, "TermAt", []any{c.term, c.x}, value, ok, c.want, true)
	}
}

func TestTermAtNoPoints(t *testing.T) {
	for _, x := range noPoints() {
		for _, s := range []string{"m", "e1", "s21", "(e1+-e1)", "-(p2*h3)", "", "e7"} {
			value, ok := impl.TermAt(s, x)
			checkNumber(t, "TermAt", []any{s, x[:min(len(x), 10)]}, value, ok, 0, false)
		}
	}
}

var letterWithDigits = regexp.MustCompile("[mehps][0-9]*")

// wantTurned is what TermTurn is to return, made letter by letter.
func wantTurned(s string) (string, bool) {
	if strings.Contains(s, "m") {
		return "", false
	}
	return letterWithDigits.ReplaceAllStringFunc(s, func(letter string) string {
		a := []int{}
		for _, digit := range letter[1:] {
			a = append(a, int(digit-'0'))
		}
		switch {
		case letter[0] == 'e':
			return "h" + letter[1:]
		case letter[0] == 'h':
			return "e" + letter[1:]
		case letter[0] == 's':
			columns := []int{}
			for k := 1; k <= 6; k++ {
				if n := len(slices.DeleteFunc(slices.Clone(a), func(part int) bool { return part < k })); n > 0 {
					columns = append(columns, n)
				}
			}
			return "s" + digits(columns)
		case (sum(a)-len(a))%2 != 0:
			return "-" + letter
		}
		return letter
	}), true
}

func TestPromise98TermTurn(t *testing.T) {
	plain, long, told := 0, 0, 0
	eachTerm(func(s string, want meaning) {
		text, wanted := wantTurned(s)
		turned, ok := impl.TermTurn(s)
		checkText(t, "TermTurn", s, turned, ok, text, wanted)
		if !ok {
			plain++
			return
		}
		if len(turned) > 40 {
			long++
			return
		}
		told++
		f, okf := impl.TermSum(turned)
		g, okg := impl.TurnSum(want.sum())
		if !okf || !okg || !impl.SumSame(f, g) {
			t.Errorf("TermSum of %q, turned %q, is %v, %v, not the same as %v, %v", s, turned, f, okf, g, okg)
		}
	})
	if plain < 100 || long < 5 || told < 500 {
		t.Errorf("%d terms with m, %d turned terms beyond 40 bytes, %d others", plain, long, told)
	}
}

func TestTermTurnKnown(t *testing.T) {
	many := "(((p2*p2)+(p2*p2))*((p+p)+((p+p)+p)))"
	for s, want := range map[string]string{
		"e": "h", "h": "e", "p": "p", "s": "s", "-e": "-h", "e2": "h2", "h31": "e31", "s3": "s111", "s21": "s21", "s31": "s211", "s6": "s111111", "s51": "s21111", "s222": "s33", "-s4": "-s1111",
		"p1": "p1", "p2": "-p2", "p3": "p3", "p4": "-p4", "p5": "p5", "p6": "-p6", "p11": "p11", "p21": "-p21", "p22": "p22", "p42": "p42", "p321": "-p321", "p222": "-p222", "p33": "p33", "-p2": "--p2", "--p2": "---p2", "---p1": "---p1",
		"(e2*p2)": "(h2*-p2)", "(p2*p2)": "(-p2*-p2)", "(e21+-h3)": "(h21+-e3)", "-(s2*(e1+p1))": "-(s11*(h1+p1))", "((e*h)*(p*s))": "((h*e)*(p*s))", "(e1+-e1)": "(h1+-h1)",
		strings.Repeat("-", 38) + "p2": strings.Repeat("-", 39) + "p2", strings.Repeat("-", 38) + "e2": strings.Repeat("-", 38) + "h2", strings.Repeat("-", 37) + "p21": strings.Repeat("-", 38) + "p21",
		"((p2+p2)*((p2+p2)*(p2+(p2+(p2+-p2)))))": "((-p2+-p2)*((-p2+-p2)*(-p2+(-p2+(-p2+--p2)))))", "-" + many: "-" + strings.ReplaceAll(many, "p2", "-p2"),
	} {
		turned, ok := impl.TermTurn(s)
		checkText(t, "TermTurn", s, turned, ok, want, true)
	}
}

func TestTermTurnPlain(t *testing.T) {
	for _, s := range []string{"m", "m1", "-m", "m321", "(m+e)", "(e*m)", "(e2*m)", "(m*e2)", "-(s3*-(p1+m1))", "(m1+-m1)", "--m111111", "(e+(e+(e+(e+(e+(e+(e+(e+(e+m)))))))))"} {
		if !impl.TermIn(s) {
			t.Errorf("TermIn does not hold for %q", s)
		}
		turned, ok := impl.TermTurn(s)
		checkText(t, "TermTurn", s, turned, ok, "", false)
	}
}

func TestPromise99TermSame(t *testing.T) {
	same, noughts := 0, 0
	all := someTermTexts()
	for i, s := range all {
		if !impl.TermSame(s, s) {
			t.Errorf("TermSame does not hold for %q and itself", s)
		}
		for _, u := range []string{all[(i*31+5)%len(all)], all[(i+1)%len(all)]} {
			first, second := oneReading()[s], oneReading()[u]
			want := first.same(second)
			if impl.TermSame(s, u) != want || impl.TermSame(u, s) != want {
				t.Errorf("TermSame of %q and %q is not %v, both ways", s, u, want)
			}
			if !want {
				continue
			}
			same++
			if slices.Max(first.numbers) == 0 && slices.Min(first.numbers) == 0 {
				noughts++
			}
			for _, x := range [][]int{{1, 2}, {3, -1, 2}} {
				if n, m := termAt(t, s, x), termAt(t, u, x); n != m {
					t.Errorf("TermAt of %q at %v is %d, of %q %d", s, x, n, u, m)
				}
			}
		}
	}
	if same < 60 || noughts < 10 {
		t.Errorf("%d pairs of the same terms, %d without numbers", same, noughts)
	}
}

// TestTermSameMade has terms that are the same as the way in which they are told in another letter, and those that are nearly so.
func TestTermSameMade(t *testing.T) {
	for _, way := range ways() {
		for d := 1; d <= 3; d++ {
			for _, a := range knownShares()[d] {
				s := way + digits(a)
				for _, other := range ways() {
					f, ok := impl.SumChange(shareSum(way, a), other)
					told, fits := textOf(f)
					if !ok || !fits {
						continue
					}
					if !impl.TermSame(s, told) || !impl.TermSame(told, s) {
						t.Errorf("TermSame does not hold for %q and %q", s, told)
					}
					if impl.TermSame("-"+s, told) || impl.TermSame(s, "-"+told) {
						t.Errorf("TermSame holds for %q and %q with a sign", s, told)
					}
				}
			}
		}
	}
}

// textOf tells a sum as a term, if there is room for it.
func textOf(f impl.Sum) (string, bool) {
	text := ""
	for i, n := range f.Coefs {
		for range max(n, -n) {
			each := f.Way + digits(knownShares()[f.Degree][i])
			if n < 0 {
				each = "-" + each
			}
			if text == "" {
				text = each
			} else {
				text = put(text, "+", each)
			}
		}
	}
	return text, text != "" && len(text) < 40
}

func TestTermSameKnown(t *testing.T) {
	for _, c := range []struct {
		first  string
		second string
		want   bool
	}{
		{"m", "e", true}, {"p", "s", true}, {"m", "-m", false}, {"m", "m1", false}, {"m", "(m+m)", false}, {"(m+-m)", "(p+-s)", true}, {"e1", "h1", true}, {"p1", "s1", true}, {"e1", "e11", false}, {"e2", "h2", false}, {"e2", "m11", true}, {"e2", "s11", true},
		{"(e1*e1)", "e11", true}, {"(e1*e1)", "(p2+(e2+e2))", true}, {"(e1*e1)", "(p2+e2)", false}, {"s21", "(h21+-h3)", true}, {"(e2*p1)", "(p1*e2)", true}, {"((p1*p1)+-p2)", "(e2+e2)", true}, {"(p1+p2)", "(p1+p2)", false},
		{"(e1+-e1)", "(h1+-p1)", true}, {"(e1+-e1)", "(e2+-e2)", false}, {"(e1+-e1)", "(m+-m)", false}, {"((m+-m)*e2)", "(p2+-p2)", true}, {"(m+-m)", "((m+-m)*e1)", false}, {"(e3+-e3)", "(e2+-e2)", false}, {"e5", "p7", false}, {"", "", false}, {"x", "x", false}, {"m", "", false}, {"", "m", false},
		{"--e1", "e1", true}, {"(e1*(e2+-p2))", "((e1*e2)+-(e1*p2))", true}, {"((p11+-p2)*m)", "(e2+e2)", true}, {"e6", "m111111", true}, {"h6", "s6", true}, {"p6", "m6", true}, {"h6", "p6", false},
		{strings.Repeat("-", 38) + "e2", "m11", true}, {strings.Repeat("-", 37) + "e2", "-m11", true}, {strings.Repeat("-", 39) + "e2", "m11", false}, {strings.Repeat("-", 39) + "e2", "-m11", false}, {"-" + strings.Repeat("-", 39) + "m", "m", false},
	} {
		if impl.TermSame(c.first, c.second) != c.want || impl.TermSame(c.second, c.first) != c.want {
			t.Errorf("TermSame of %q and %q is not %v, both ways", c.first, c.second, c.want)
		}
	}
}

var (
	letterBehindTimes  = regexp.MustCompile(`^(.*)\*[mehps]$`)
	letterAheadOfTimes = regexp.MustCompile(`^[mehps]\*(.*)$`)
)

// wantTidy is what TermTidy is to return, made on the text: what is not tidy is taken out, that which is closed first first, until
// nothing of it is left.
func wantTidy(s string) string {
	for {
		s = strings.ReplaceAll(s, "--", "")
		less := withoutOne(s)
		if less == s {
			return s
		}
		s = less
	}
}

// withoutOne takes out the first closed brackets with a letter without digits behind their * or ahead of it, if there are any.
func withoutOne(s string) string {
	opened := []int{}
	for i := range len(s) {
		if s[i] == '(' {
			opened = append(opened, i)
		}
		if s[i] != ')' {
			continue
		}
		start := opened[len(opened)-1]
		opened = opened[:len(opened)-1]
		inside := s[start+1 : i]
		for _, pattern := range []*regexp.Regexp{letterBehindTimes, letterAheadOfTimes} {
			if found := pattern.FindStringSubmatch(inside); found != nil {
				return s[:start] + found[1] + s[i+1:]
			}
		}
	}
	return s
}

func TestPromise100TermTidy(t *testing.T) {
	changed, kept := 0, 0
	eachTerm(func(s string, want meaning) {
		tidy, ok := impl.TermTidy(s)
		checkText(t, "TermTidy", s, tidy, ok, wantTidy(s), true)
		again, ok := impl.TermTidy(tidy)
		checkText(t, "TermTidy again", tidy, again, ok, tidy, true)
		if len(tidy) > len(s) || !impl.TermSame(s, tidy) {
			t.Errorf("TermTidy of %q is %q: it is longer, or not the same", s, tidy)
		}
		if tidy == s {
			kept++
		} else {
			changed++
		}
	})
	if changed < 500 || kept < 500 {
		t.Errorf("%d terms changed, %d kept", changed, kept)
	}
}

func TestTermTidyKnown(t *testing.T) {
	for s, want := range map[string]string{
		"m": "m", "s21": "s21", "-e2": "-e2", "--e2": "e2", "---e2": "-e2", "----e2": "e2", "--m": "m", "(e1+e1)": "(e1+e1)", "(e1*e1)": "(e1*e1)", "(--e1+---e1)": "(e1+-e1)", "-(-e1+-e1)": "-(-e1+-e1)", "--(--e1*--e1)": "(e1*e1)",
		"(p2*m)": "p2", "(p2*e)": "p2", "(p2*h)": "p2", "(p2*p)": "p2", "(p2*s)": "p2", "(m*p2)": "p2", "(e*p2)": "p2", "(h*p2)": "p2", "(p*p2)": "p2", "(s*p2)": "p2", "--(m*p2)": "p2", "-(m*-p2)": "p2", "(m*-p2)": "-p2", "-(-p2*s)": "p2",
		"(m*e)": "m", "(e*m)": "e", "(h*p)": "h", "(p*h)": "p", "(s*s)": "s", "(e*(h*p))": "e", "((e*h)*p)": "e", "((s*m)*e2)": "e2", "(e2*(s*m))": "e2", "((m*e2)*(h*p3))": "(e2*p3)", "(m*(e*(h*(p*s21))))": "s21", "((((s21*m)*e)*h)*p)": "s21",
		"(-m*e2)": "(-m*e2)", "(e2*-m)": "(e2*-m)", "(--m*e2)": "e2", "(e2*--m)": "e2", "(-m*e)": "-m", "(m*-e)": "-e", "(-m*-e)": "(-m*-e)", "-(m*-e)": "e", "(-(m*-e)*p2)": "p2", "(-(m*e)*p2)": "(-m*p2)", "(--m*--e)": "m",
		"(m+m)": "(m+m)", "(m+e)": "(m+e)", "((m+m)*e2)": "((m+m)*e2)", "((m+m)*e)": "(m+m)", "(s*(m+-m))": "(m+-m)", "((m*h)+(p*e))": "(m+p)", "((m*h)+-(p*e))": "(m+-p)", "(m*(e2+h2))": "(e2+h2)", "((e2*m)+(h*h2))": "(e2+h2)", "(m1*m)": "m1", "(m*m1)": "m1", "(m1*m1)": "(m1*m1)",
		"(p*(s*-(p*-s)))": "p", "(e*(h*-(p*-s)))": "e", "(-(h*-e)*m)": "e", "(m*-(h*-e))": "m", "((h*-e)*-(s*-p))": "-e",
		strings.Repeat("-", 39) + "m": "-m", strings.Repeat("-", 38) + "e2": "e2", "((((((m*e)*h)*p)*s)*m)*(m*(m*(m*---e))))": "-e",
	} {
		tidy, ok := impl.TermTidy(s)
		checkText(t, "TermTidy", s, tidy, ok, want, true)
	}
}

// TestNoTerms: what is no term fails, with zero values, whatever it is asked.
func TestNoTerms(t *testing.T) {
	for _, s := range noTerms() {
		name := briefText(s)
		if impl.TermIn(s) {
			t.Errorf("TermIn holds for %q", name)
		}
		degree, ok := impl.TermDegree(s)
		checkNumber(t, "TermDegree", name, degree, ok, 0, false)
		f, ok := impl.TermSum(s)
		checkSum(t, "TermSum", name, f, ok, impl.Sum{}, false)
		for _, x := range [][]int{nil, {1, 2}, {1, 2, 3, 4, 5}, {6}, {1, 1, 1, 1, 1, 1}} {
			value, ok := impl.TermAt(s, x)
			checkNumber(t, "TermAt", name, value, ok, 0, false)
		}
		turned, ok := impl.TermTurn(s)
		checkText(t, "TermTurn", name, turned, ok, "", false)
		tidy, ok := impl.TermTidy(s)
		checkText(t, "TermTidy", name, tidy, ok, "", false)
		for _, other := range []string{s, "m", "e1", "e21", "(e1+-e1)", ""} {
			if impl.TermSame(s, other) || impl.TermSame(other, s) {
				t.Errorf("TermSame holds for %q and %q", name, briefText(other))
			}
		}
	}
}

func TestTermMemory(t *testing.T) {
	for _, s := range []string{"m", "s21", "(e1*e1)", "-(p2+(h1*h1))"} {
		first, _ := impl.TermSum(s)
		second, _ := impl.TermSum(s)
		apart(t, "TermSum of "+s, first.Coefs, second.Coefs)
		scribble(first.Coefs)
		third, ok := impl.TermSum(s)
		checkSum(t, "TermSum after another one was overwritten", s, third, ok, second, true)
		for _, x := range [][]int{{}, {1, 2}, {3, -1, 2, 5, 0}} {
			y := spaced(x)
			impl.TermAt(s, y)
			unspoilt(t, "TermAt", y, x)
		}
	}
}

// TestTermsAtOnce asks for the same terms in many goroutines.
func TestTermsAtOnce(t *testing.T) {
	var all sync.WaitGroup
	for range 8 {
		all.Go(func() {
			for i, s := range someTermTexts() {
				if i%40 != 0 {
					continue
				}
				want := oneReading()[s]
				f, ok := impl.TermSum(s)
				checkSum(t, "TermSum at once", s, f, ok, want.sum(), true)
				tidy, ok := impl.TermTidy(s)
				checkText(t, "TermTidy at once", s, tidy, ok, wantTidy(s), true)
				value, ok := impl.TermAt(s, []int{1, 2, -1})
				checkNumber(t, "TermAt at once", s, value, ok, want.at([]int{1, 2, -1}), true)
			}
		})
	}
	all.Wait()
}
