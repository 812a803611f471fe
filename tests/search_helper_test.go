package tests

import (
	"slices"
	"testing"

	"loop.example/vectorstore/impl"
)

// hit makes a hit.
func hit(key int, dist int) impl.Hit {
	return impl.Hit{Key: key, Dist: dist}
}

// line returns a store whose items lie on the first axis at some places, with the keys 1, 2, 3 and so on.
func line(places ...int) []impl.Item {
	out := make([]impl.Item, 0, len(places))
	for i, c := range places {
		out = append(out, item(i+1, vec(c, 0, 0, 0), i%16))
	}
	return out
}

// corners returns a store with an item in each of the 16 corners of a box, all as far from its middle.
func corners(c int) []impl.Item {
	out := make([]impl.Item, 0, impl.MaxItems)
	for i := range impl.MaxItems {
		at := flat(-c)
		for j := range at {
			if i>>j&1 == 1 {
				at[j] = c
			}
		}
		out = append(out, item(3+5*i, at, 15-i))
	}
	return out
}

// tieStores returns valid stores with many items at the same distance, and with keys that do not follow the places.
func tieStores() [][]impl.Item {
	same := fullStore()
	for i := range same {
		same[i].At = flat(7)
	}
	axes := []impl.Item{item(2, flat(0), 0)}
	for i := range 2 * impl.Dims {
		at := flat(0)
		at[i/2] = 5 - 10*(i%2)
		axes = append(axes, item(90-9*i, at, i))
	}
	slices.SortFunc(axes, func(x impl.Item, y impl.Item) int { return x.Key - y.Key })
	var grid []impl.Item
	for i := range impl.MaxItems {
		grid = append(grid, item(99-impl.MaxItems+1+i, vec(i*7%4, i*7/4%4, 0, -3), i))
	}
	return [][]impl.Item{
		same, corners(10), axes, grid,
		line(0, 9, 2, 3, 5), line(0, 9, 1, 3, 5), line(0, 5, -5), line(4, 4), line(100, -100, 100, -100, 0, 0),
		line(8, -8, 4, -4, 2, -2, 1, -1, 0, 0, 16, -16, 32, -32, 64, -64),
	}
}

// searchStores returns valid stores of all sizes, with and without equal distances.
func searchStores() [][]impl.Item {
	out := append(sampleStores(), tieStores()...)
	for size := range impl.MaxItems {
		out = append(out, fullStore()[:size], corners(1)[:size])
	}
	return out
}

// searchVectors returns vectors to search from: at items of a store, near them and far from them.
func searchVectors(list []impl.Item) [][]int {
	out := [][]int{flat(0), flat(1), flat(-100), vec(100, -100, 100, -100), vec(4, 0, 0, 0), vec(2, 1, 0, -3), vec(-7, 3, 60, 0)}
	for i := 0; i < len(list); i += 3 {
		out = append(out, list[i].At)
	}
	return out
}

// treeKinds returns the kinds of distances for which there are trees.
func treeKinds() []int {
	return vec(impl.DistSum, impl.DistMost, impl.DistCount)
}

// badKinds returns numbers that are no kinds of distances.
func badKinds() []int {
	return append(badNumbers(), 0, 5, 6)
}

// badCounts returns numbers of items that no search can ask for.
func badCounts() []int {
	return append(badNumbers(), 0, impl.MaxItems+1, impl.MaxItems+2)
}

// eachSearch calls a function for all sample stores, some kinds of distances and vectors.
func eachSearch(kinds []int, f func(list []impl.Item, kind int, at []int)) {
	for _, list := range searchStores() {
		for _, at := range searchVectors(list) {
			for _, kind := range kinds {
				f(list, kind, at)
			}
		}
	}
}

// badSearches calls a function for searches with one or more invalid arguments, for some valid kinds of distances.
func badSearches(kinds []int, badKinds []int, f func(list []impl.Item, kind int, at []int, k int)) {
	at := vec(1, 0, 0, 0)
	for _, list := range sampleStores() {
		for _, k := range vec(1, 2, impl.MaxItems) {
			for _, kind := range badKinds {
				f(list, kind, at, k)
			}
			for _, v := range badVectors() {
				f(list, kinds[0], v, k)
			}
		}
		for _, kind := range kinds {
			for _, k := range badCounts() {
				f(list, kind, at, k)
			}
		}
	}
	for _, list := range badStores() {
		for _, kind := range kinds {
			f(list, kind, at, 1)
			f(list, kind, at, impl.MaxItems)
		}
	}
	f(badStores()[0], badKinds[0], badVectors()[0], 0)
}

// wantHits returns all items as hits, in the order of their distances and then of their keys.
func wantHits(list []impl.Item, kind int, at []int) []impl.Hit {
	var out []impl.Hit
	for _, x := range list {
		h := hit(x.Key, impl.Distance(kind, at, x.At))
		i := 0
		for i < len(out) && (out[i].Dist < h.Dist || out[i].Dist == h.Dist && out[i].Key < h.Key) {
			i++
		}
		out = slices.Insert(out, i, h)
	}
	return out
}

// keysOf returns the keys of items.
func keysOf(list []impl.Item) []int {
	var out []int
	for _, x := range list {
		out = append(out, x.Key)
	}
	return out
}

// hitKeys returns the keys of hits.
func hitKeys(list []impl.Hit) []int {
	var out []int
	for _, h := range list {
		out = append(out, h.Key)
	}
	return out
}

// nearestOf returns Nearest, which has to have as many hits as wanted, or all.
func nearestOf(t *testing.T, list []impl.Item, kind int, at []int, k int) []impl.Hit {
	t.Helper()
	out := impl.Nearest(list, kind, at, k)
	if len(out) != min(k, len(list)) {
		t.Fatalf("Nearest(%v, %d, %v, %d) = %v", list, kind, at, k, out)
	}
	return out
}

// treeOf returns BuildTree, which has to have as many nodes as there are items.
func treeOf(t *testing.T, list []impl.Item, kind int) []impl.Node {
	t.Helper()
	out := impl.BuildTree(list, kind)
	if len(out) != len(list) {
		t.Fatalf("BuildTree(%v, %d) = %v", list, kind, out)
	}
	for i, n := range out {
		for _, below := range vec(n.Near, n.Far) {
			if below != -1 && (below <= i || below >= len(out)) {
				t.Fatalf("BuildTree(%v, %d) = %v leads from %d to %d", list, kind, out, i, below)
			}
		}
	}
	return out
}
