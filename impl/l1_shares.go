package impl

import (
	"iter"
	"slices"
)

// DegreeMax is the greatest sum of a share.
const DegreeMax = 6

// share is a list that has been found to be a share, so that its methods need not check it again.
// It may lie in the memory of an argument: no method changes it or gives a part of it out.
type share []int

// shareOf takes a list as a share, if it is one.
func shareOf(a []int) (share, bool) {
	left := DegreeMax // counting down keeps great parts from running over
	for i, part := range a {
		if part < 1 || part > left || i > 0 && part > a[i-1] {
			return nil, false
		}
		left -= part
	}
	return a, true
}

// pairOf takes two lists as shares of one degree, if they are such.
func pairOf(a []int, b []int) (share, share, bool) {
	s, oks := shareOf(a)
	t, okt := shareOf(b)
	if !oks || !okt || s.degree() != t.degree() {
		return nil, nil, false
	}
	return s, t, true
}

// joinableOf takes two lists as shares, if they are such and have degrees that together are no greater than DegreeMax.
func joinableOf(a []int, b []int) (share, share, bool) {
	s, oks := shareOf(a)
	t, okt := shareOf(b)
	if !oks || !okt || s.degree()+t.degree() > DegreeMax {
		return nil, nil, false
	}
	return s, t, true
}

// sharesOf gives all shares of a degree with no part above a limit, in order, each one in memory of its own.
func sharesOf(degree int, limit int) iter.Seq[share] {
	return func(yield func(share) bool) {
		if degree == 0 {
			yield(share{})
			return
		}
		for first := min(degree, limit); first > 0; first-- {
			for rest := range sharesOf(degree-first, first) {
				if !yield(append(share{first}, rest...)) {
					return
				}
			}
		}
	}
}

// allShares returns all shares of a degree, in order.
func allShares(degree int) []share {
	return slices.Collect(sharesOf(degree, DegreeMax))
}

func (s share) degree() int {
	sum := 0
	for _, part := range s {
		sum += part
	}
	return sum
}

// part returns the part i, counted from 0 on, and 0 behind the last one.
func (s share) part(i int) int {
	if i < len(s) {
		return s[i]
	}
	return 0
}

func (s share) place() int {
	place := 0
	for other := range sharesOf(s.degree(), DegreeMax) {
		if slices.Equal(s, other) {
			break
		}
		place++
	}
	return place
}

// atLeast returns the number of parts of at least k.
func (s share) atLeast(k int) int {
	count := 0
	for _, part := range s {
		if part >= k {
			count++
		}
	}
	return count
}

func (s share) turned() share {
	t := share{}
	for k := range s.part(0) {
		t = append(t, s.atLeast(k+1))
	}
	return t
}

// above holds if the first parts of s never add up to less than those of t, which has the same degree:
// behind the last part of s they cannot, as all of the degree is there already.
func (s share) above(t share) bool {
	lead := 0
	for i, part := range s {
		lead += part - t.part(i)
		if lead < 0 {
			return false
		}
	}
	return true
}

// inOrder makes a share of parts that may stand in any order, in their memory.
func inOrder(parts share) share {
	slices.Sort(parts)
	slices.Reverse(parts)
	return parts
}

func (s share) join(t share) share {
	return inOrder(slices.Concat(s, t))
}

// runs returns, for each part, how many equal ones there are up to it: the product over a run is the factorial of its length.
func (s share) runs() []int {
	runs := make([]int, len(s))
	for i, part := range s {
		runs[i] = 1
		if i > 0 && part == s[i-1] {
			runs[i] += runs[i-1]
		}
	}
	return runs
}

func (s share) times() int {
	product := 1
	for i, run := range s.runs() {
		product *= s[i] * run
	}
	return product
}

// orders builds up the number of orders part by part: at each part it is that of the parts so far, so no division leaves a rest.
func (s share) orders() int {
	count := 1
	for i, run := range s.runs() {
		count = count * (i + 1) / run
	}
	return count
}

func (s share) sign() int {
	if (s.degree()-len(s))%2 == 0 {
		return 1
	}
	return -1
}

func (s share) cells() []int {
	cells := []int{}
	for i, part := range s {
		for j := 1; j <= part; j++ {
			cells = append(cells, part-j+s[i+1:].atLeast(j)+1)
		}
	}
	return cells
}

// lower goes from the last part to the first one, as what is taken off further behind leaves the greater list.
func (s share) lower() []share {
	all := []share{}
	for i := len(s) - 1; i >= 0; i-- {
		if s[i] == s.part(i+1) {
			continue
		}
		t := slices.Clone(s)
		t[i]--
		if t[i] == 0 {
			t = t[:i]
		}
		all = append(all, t)
	}
	return all
}

// lists counts by the place of the greatest number, which is at the end of a part that can be made lower.
func (s share) lists() int {
	if len(s) == 0 {
		return 1
	}
	count := 0
	for _, t := range s.lower() {
		count += t.lists()
	}
	return count
}

// listsOf gives shares out as plain lists, in their memory.
func listsOf(all []share) [][]int {
	lists := [][]int{}
	for _, s := range all {
		lists = append(lists, s)
	}
	return lists
}

// found returns what a method finds for a list, if it is a share.
func found[T any](a []int, find func(share) T) (T, bool) {
	s, ok := shareOf(a)
	if !ok {
		var none T
		return none, false
	}
	return find(s), true
}

// ShareIn reports whether a list is a share.
func ShareIn(a []int) bool {
	_, ok := shareOf(a)
	return ok
}

// ShareAll returns all shares of degree d, d from 0 to DegreeMax, in order, and true.
func ShareAll(d int) ([][]int, bool) {
	if d < 0 || d > DegreeMax {
		return nil, false
	}
	all := [][]int{}
	for s := range sharesOf(d, DegreeMax) {
		all = append(all, s)
	}
	return all, true
}

// SharePlace returns the place of a share among all of its degree, in order, from 0 on, and true.
func SharePlace(a []int) (int, bool) {
	return found(a, share.place)
}

// ShareTurn returns the turned share, and true.
func ShareTurn(a []int) ([]int, bool) {
	t, ok := found(a, share.turned)
	return t, ok
}

// ShareAbove reports whether the first one of two shares of one degree is above the second one.
func ShareAbove(a []int, b []int) bool {
	s, t, ok := pairOf(a, b)
	return ok && s.above(t)
}

// ShareJoin returns the share with the parts of two shares, and true.
func ShareJoin(a []int, b []int) ([]int, bool) {
	s, t, ok := joinableOf(a, b)
	if !ok {
		return nil, false
	}
	return s.join(t), true
}

// ShareTimes returns the product, over all numbers k, of k to the power of the number c of its parts k, and of the factorial of c, and true.
func ShareTimes(a []int) (int, bool) {
	return found(a, share.times)
}

// ShareOrders returns the number of lists with just the parts of a share, in any order, and true.
func ShareOrders(a []int) (int, bool) {
	return found(a, share.orders)
}

// ShareSign returns 1 if the degree less the number of parts is even, and otherwise -1, and true.
func ShareSign(a []int) (int, bool) {
	return found(a, share.sign)
}

// ShareCells returns, for each part from the first one on, one behind the other, the numbers of its cells.
func ShareCells(a []int) ([]int, bool) {
	return found(a, share.cells)
}

// ShareLists returns the number of ways to put the numbers from 1 to the degree into the cells of a share so that they grow along each part and from each part to the one behind it, and true.
func ShareLists(a []int) (int, bool) {
	return found(a, share.lists)
}

// ShareLower returns all shares that come by taking 1 off a part, in order, and true.
func ShareLower(a []int) ([][]int, bool) {
	all, ok := found(a, share.lower)
	return listsOf(all), ok
}
