package tests

import (
	"slices"
	"testing"

	"loop.example/vectorstore/impl"
)

// sampleCentres returns valid centres: from one to as many as possible, equal ones, and ones that are far from all items.
func sampleCentres() [][][]int {
	return [][][]int{
		{flat(0)},
		{flat(-100)},
		{vec(100, -100, 100, -100)},
		{flat(0), vec(10, 10, 0, 0)},
		{vec(10, 10, 0, 0), flat(0)},
		{vec(-5, 0, 0, 0), vec(5, 0, 0, 0)},
		{vec(5, 0, 0, 0), vec(-5, 0, 0, 0), flat(0)},
		{flat(7), flat(7)},
		{flat(3), flat(-3), flat(3)},
		{vec(0, 1, 0, 0), vec(0, -1, 0, 0), vec(0, -1, 0, 0), vec(0, 1, 0, 0)},
		{flat(1), flat(1), flat(1), flat(1)},
		{flat(100), flat(-100), vec(100, -100, 100, -100), vec(-100, 100, -100, 100)},
		{flat(99), flat(98), flat(97), flat(0)},
		{vec(3, 0, 0, 0), vec(2, 0, 0, 0), vec(1, 0, 0, 0), flat(0)},
		{flat(-50), flat(50), vec(-50, 50, 50, -50), vec(50, -50, -50, 50)},
		{vec(-37, 80, 12, 5), vec(61, -9, -74, 33), vec(20, 44, -3, -96)},
	}
}

// clusterCentres returns valid centres for a store, also such as are items of it.
func clusterCentres(list []impl.Item) [][][]int {
	out := sampleCentres()
	if len(list) > 0 {
		first, last := list[0].At, list[len(list)-1].At
		out = append(out, [][]int{last, first}, [][]int{flat(-100), first, first, last}, vectorsOf(list[:min(len(list), impl.MaxCentres)]))
	}
	return out
}

// badCentres returns centres that are not valid.
func badCentres() [][][]int {
	return badVectorLists(impl.MaxCentres)
}

// badVectorLists returns lists of vectors that are not valid: none, one too many, and each place with each vector that is not valid.
func badVectorLists(most int) [][][]int {
	out := [][][]int{nil, {}, slices.Repeat([][]int{flat(0)}, most+1), slices.Repeat([][]int{flat(1)}, 100)}
	var different [][]int
	for i := range most + 1 {
		different = append(different, flat(i))
	}
	out = append(out, different)
	for _, bad := range badVectors() {
		for many := 1; many <= most; many++ {
			for i := range many {
				list := slices.Repeat([][]int{flat(2)}, many)
				list[i] = bad
				out = append(out, list)
			}
		}
	}
	return append(out, append(slices.Repeat([][]int{flat(0)}, most), nil))
}

// badProbes returns numbers of centres that no search can ask for.
func badProbes() []int {
	return append(badNumbers(), 0, impl.MaxCentres+1, impl.MaxCentres+2)
}

// eachCluster calls a function for all sample stores with some centres.
func eachCluster(f func(centres [][]int, list []impl.Item)) {
	for _, list := range searchStores() {
		for _, centres := range clusterCentres(list) {
			f(centres, list)
		}
	}
}

// eachProbe calls a function for all sample stores with some centres and vectors.
func eachProbe(f func(centres [][]int, list []impl.Item, at []int)) {
	eachCluster(func(centres [][]int, list []impl.Item) {
		for _, at := range append(searchVectors(list), centres...) {
			f(centres, list, at)
		}
	})
}

// badClusters calls a function for centres and stores one or both of which are not valid.
func badClusters(f func(centres [][]int, list []impl.Item)) {
	for _, list := range sampleStores() {
		for _, centres := range badCentres() {
			f(centres, list)
		}
	}
	for _, list := range badStores() {
		for _, centres := range sampleCentres() {
			f(centres, list)
		}
		f(nil, list)
		f(badCentres()[2], list)
	}
}

// squares returns the sum of the squares of differences.
func squares(a []int, b []int) int {
	sum := 0
	for i := range a {
		sum += (a[i] - b[i]) * (a[i] - b[i])
	}
	return sum
}

// wantCentre returns the number of the nearest centre, found from the last one to the first one.
func wantCentre(centres [][]int, at []int) int {
	number := len(centres) - 1
	for i := number; i >= 0; i-- {
		if squares(centres[i], at) <= squares(centres[number], at) {
			number = i
		}
	}
	return number
}

// wantMoved returns centres in the middle of their items, rounded down by counting.
func wantMoved(centres [][]int, list []impl.Item) [][]int {
	var out [][]int
	for i, c := range centres {
		sums, many := flat(0), 0
		for _, x := range list {
			if wantCentre(centres, x.At) == i {
				sums = moved(sums, x.At)
				many++
			}
		}
		middle := slices.Clone(c)
		for j := 0; j < impl.Dims && many > 0; j++ {
			middle[j] = -impl.MaxCoord
			for (middle[j]+1)*many <= sums[j] {
				middle[j]++
			}
		}
		out = append(out, middle)
	}
	return out
}

// wantSettled returns settled centres, with how often they changed.
func wantSettled(centres [][]int, list []impl.Item) ([][]int, int) {
	for changes := range impl.MaxRounds {
		next := wantMoved(centres, list)
		if sameVectors(next, centres) {
			return centres, changes
		}
		centres = next
	}
	return centres, impl.MaxRounds
}

// wantOrder returns the numbers of all centres, the nearest one first, by taking one after the other.
func wantOrder(centres [][]int, at []int) []int {
	var out []int
	for range centres {
		best := -1
		for i, c := range centres {
			if !slices.Contains(out, i) && (best == -1 || squares(c, at) < squares(centres[best], at)) {
				best = i
			}
		}
		out = append(out, best)
	}
	return out
}

// wantProbed returns those items whose centre is one of the nearest ones, in order.
func wantProbed(centres [][]int, list []impl.Item, at []int, many int) []impl.Item {
	order := wantOrder(centres, at)
	var out []impl.Item
	for _, x := range list {
		if slices.Contains(order[:min(many, len(order))], wantCentre(centres, x.At)) {
			out = append(out, x)
		}
	}
	return out
}

// settlingCase is a store and centres with what they settle at.
type settlingCase struct {
	centres [][]int
	list    []impl.Item
	want    [][]int
	changes int
}

// lineCentres returns centres on the first axis.
func lineCentres(places ...int) [][]int {
	var out [][]int
	for _, c := range places {
		out = append(out, vec(c, 0, 0, 0))
	}
	return out
}

// evenLine returns a store with 16 items on the first axis, from 0 on, each by a step behind the last one.
func evenLine(step int) []impl.Item {
	var places []int
	for i := range impl.MaxItems {
		places = append(places, i*step)
	}
	return line(places...)
}

// settlingCases returns centres that settle without any change, before the last round, just in it, and not at all.
func settlingCases() []settlingCase {
	square := line(-40, -40, -38, -36, -32, -28, -22, -16)
	return []settlingCase{
		{lineCentres(3, 9), nil, lineCentres(3, 9), 0},
		{lineCentres(0, 8), line(0, 8), lineCentres(0, 8), 0},
		{lineCentres(2, 8), line(0, 8), lineCentres(0, 8), 1},
		// Of equal centres only the first one moves in the first round.
		{lineCentres(5, 5), line(0, 8), lineCentres(0, 8), 2},
		// The item at 3 is as far from both centres after one round, and then has the first one.
		{lineCentres(0, 2), line(0, 3, 10), lineCentres(1, 10), 2},
		{lineCentres(0, 1), evenLine(1), lineCentres(3, 11), 3},
		{lineCentres(0, 1), evenLine(2), lineCentres(7, 23), 4},
		{lineCentres(-43, -42, -41, -40), line(-40, -40, -37, -34, -28, -22, -13, -4, 8), lineCentres(-43, -38, -25, -3), 5},
		{lineCentres(0, 1, 2, 3), evenLine(1), lineCentres(0, 3, 7, 12), 6},
		{lineCentres(0, 1, 2, 3), evenLine(3), lineCentres(1, 10, 22, 37), 7},
		// Just settled by the last round.
		{lineCentres(-43, -42, -41, -40), square, lineCentres(-43, -39, -30, -19), 8},
		// Not settled by the last round.
		{lineCentres(0, 1, 2, 3), evenLine(2), lineCentres(2, 8, 16, 26), 8},
		{lineCentres(0, 1, 2, 3), evenLine(6), lineCentres(6, 24, 48, 78), 8},
	}
}

// eachSettling calls a function for all samples and for the cases of settling.
func eachSettling(f func(centres [][]int, list []impl.Item)) {
	eachCluster(f)
	for _, c := range settlingCases() {
		f(c.centres, c.list)
	}
}

// sameVectors reports whether two lists of vectors are equal.
func sameVectors(a [][]int, b [][]int) bool {
	return slices.EqualFunc(a, b, slices.Equal)
}

// roomyVectors returns a copy of vectors with a vector in its spare capacity, and numbers in that of each vector.
func roomyVectors(list [][]int) [][]int {
	out := append(slices.Clone(list), flat(73), flat(74))
	for i := range out {
		out[i] = roomy(out[i])
	}
	return out[:len(list)]
}

// wholeMemory returns a copy of vectors as far as their capacities go.
func wholeMemory(list [][]int) [][]int {
	out := slices.Clone(list[:cap(list)])
	for i := range out {
		out[i] = slices.Clone(out[i][:cap(out[i])])
	}
	return out
}

// nearestToCentres returns CentreOf, which has to be the number of a centre.
func nearestToCentres(t *testing.T, centres [][]int, at []int) int {
	t.Helper()
	number := impl.CentreOf(centres, at)
	if number < 0 || number >= len(centres) {
		t.Fatalf("CentreOf(%v, %v) = %d", centres, at, number)
	}
	return number
}

// listsOf returns ListsOf, which has to have a list for each centre.
func listsOf(t *testing.T, centres [][]int, list []impl.Item) [][]int {
	t.Helper()
	out := impl.ListsOf(centres, list)
	if len(out) != len(centres) {
		t.Fatalf("ListsOf(%v, %v) = %v", centres, list, out)
	}
	return out
}

// orderOf returns ProbeOrder, which has to have as many different centres as wanted, or all.
func orderOf(t *testing.T, centres [][]int, at []int, many int) []int {
	t.Helper()
	out := impl.ProbeOrder(centres, at, many)
	sorted := slices.Sorted(slices.Values(out))
	if len(out) != min(many, len(centres)) || len(slices.Compact(sorted)) != len(out) || sorted[0] < 0 || slices.Max(out) >= len(centres) {
		t.Fatalf("ProbeOrder(%v, %v, %d) = %v", centres, at, many, out)
	}
	return out
}
