package tests

import (
	"slices"
	"testing"
)

// lists gives all lists of n numbers from low to high.
func lists(n int, low int, high int) [][]int {
	all := [][]int{{}}
	for range n {
		var longer [][]int
		for _, a := range all {
			for x := low; x <= high; x++ {
				longer = append(longer, append(slices.Clone(a), x))
			}
		}
		all = longer
	}
	return all
}

// orders gives all orders of the numbers from 1 to n.
func orders(n int) [][]int {
	if n == 0 {
		return [][]int{{}}
	}
	var all [][]int
	for _, a := range orders(n - 1) {
		for i := range n {
			all = append(all, slices.Insert(slices.Clone(a), i, n))
		}
	}
	return all
}

// drawer gives numbers without an order that shows, from -limit to limit: always the same ones for a seed.
func drawer(seed uint64) func(limit int) int {
	return func(limit int) int {
		seed = seed*6364136223846793005 + 1442695040888963407
		return int(seed>>33)%(2*limit+1) - limit
	}
}

func sum(a []int) int {
	s := 0
	for _, x := range a {
		s += x
	}
	return s
}

func factorial(n int) int {
	f := 1
	for i := 2; i <= n; i++ {
		f *= i
	}
	return f
}

func sameLists(a [][]int, b [][]int) bool {
	return slices.EqualFunc(a, b, func(x []int, y []int) bool { return slices.Equal(x, y) })
}

// spaced returns a list with room behind it that is filled with -9, so that a function that appends to it is found out by unspoilt.
func spaced(a []int) []int {
	b := append(slices.Clone(a), -9, -9, -9, -9, -9, -9, -9)
	return b[:len(a)]
}

// unspoilt fails the test if a list made by spaced is not as it was.
func unspoilt(t *testing.T, name string, b []int, a []int) {
	t.Helper()
	if !slices.Equal(b, a) {
		t.Errorf("%s changed its argument %v to %v", name, a, b)
	}
	for _, x := range b[len(b):cap(b)][:7] {
		if x != -9 {
			t.Errorf("%s wrote behind its argument %v", name, a)
		}
	}
}

// scribble overwrites a list and all the room behind it.
func scribble(a []int) {
	a = a[:cap(a)]
	for i := range a {
		a[i] = -99
	}
}

// apart fails the test if scribbling over one of the lists, with the room behind it, changes another one or the room behind that.
func apart(t *testing.T, name string, all ...[]int) {
	t.Helper()
	for i, a := range all {
		keep := make([][]int, len(all))
		for k, b := range all {
			keep[k] = slices.Clone(b[:cap(b)])
		}
		scribble(a)
		for k, b := range all {
			if k != i && !slices.Equal(b[:cap(b)], keep[k]) {
				t.Errorf("%s: list %d shares memory with list %d", name, i, k)
			}
		}
		copy(a[:cap(a)], keep[i])
	}
}
