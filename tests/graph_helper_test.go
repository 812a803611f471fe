package tests

import (
	"maps"
	"slices"
	"testing"

	"loop.example/vectorstore/impl"
)

// samePlace returns a store with the keys 1, 2, 3 and so on, whose items are all at one place.
func samePlace(many int) []impl.Item {
	return line(slices.Repeat([]int{7}, many)...)
}

// islands returns a store of four pairs of items that are far from each other.
func islands() []impl.Item {
	return line(0, 1, 30, 31, 60, 61, 90, 91)
}

// graphStores returns valid stores of all sizes, with items that have many neighbours as near, and with items to which none leads.
func graphStores() [][]impl.Item {
	out := append(searchStores(), evenLine(6), islands(), samePlace(6), samePlace(7))
	for seed := range 4 {
		list, number := fullStore(), numbers(uint64(40+seed))
		for i := range list {
			list[i].At = vec(number(-3, 3), number(-3, 3), number(0, 1), 0)
		}
		out = append(out, list)
	}
	return out
}

// badLinks returns numbers of neighbours that no items can have.
func badLinks() []int {
	return append(badNumbers(), 0, impl.MaxLinks+1, impl.MaxLinks+2, impl.MaxItems)
}

// missingKeys returns numbers that are the key of no item of a store.
func missingKeys(list []impl.Item) []int {
	out := append(badNumbers(), 100, 101)
	for key := range 100 {
		if !slices.Contains(keysOf(list), key) {
			out = append(out, key)
		}
	}
	return out
}

// eachGraph calls a function for all sample stores with all kinds of distances and numbers of neighbours.
func eachGraph(f func(list []impl.Item, kind int, many int)) {
	for _, list := range graphStores() {
		for _, kind := range allKinds() {
			for many := 1; many <= impl.MaxLinks; many++ {
				f(list, kind, many)
			}
		}
	}
}

// eachWalk calls a function for walks in all sample stores from all items to all vectors, each for one kind of distances and one number of neighbours.
func eachWalk(f func(list []impl.Item, kind int, many int, key int, at []int)) {
	number := numbers(50)
	for _, list := range graphStores() {
		for _, at := range searchVectors(list) {
			for _, x := range list {
				f(list, allKinds()[number(0, 3)], vec(1, 2, impl.MaxLinks)[number(0, 2)], x.Key, at)
			}
		}
	}
}

// badGraphs calls a function for neighbours with one or more invalid arguments.
func badGraphs(f func(list []impl.Item, kind int, many int)) {
	for many := 1; many <= impl.MaxLinks; many++ {
		for _, list := range badStores() {
			for _, kind := range allKinds() {
				f(list, kind, many)
			}
		}
		for _, kind := range badKinds() {
			for _, list := range sampleStores() {
				f(list, kind, many)
			}
		}
	}
	for _, many := range badLinks() {
		for _, kind := range allKinds() {
			for _, list := range sampleStores() {
				f(list, kind, many)
			}
		}
		f(badStores()[0], 0, many)
	}
}

// someKeys returns the keys of items, whether they are valid or not, or a key if there are no items.
func someKeys(list []impl.Item) []int {
	if len(list) == 0 {
		return vec(1)
	}
	return vec(list[0].Key, list[len(list)-1].Key)
}

// wantLinks returns the neighbours of each item: the first ones of the others, all put in order.
func wantLinks(list []impl.Item, kind int, many int) map[int][]int {
	out := map[int][]int{}
	for i, x := range list {
		out[x.Key] = nil
		for _, h := range wantHits(without(list, i), kind, x.At) {
			if len(out[x.Key]) < many {
				out[x.Key] = append(out[x.Key], h.Key)
			}
		}
	}
	return out
}

// wantWalk returns the keys of a walk, found by the places of the items in the order of all of them.
func wantWalk(list []impl.Item, kind int, many int, key int, at []int) []int {
	places, links := map[int]int{}, wantLinks(list, kind, many)
	for i, h := range wantHits(list, kind, at) {
		places[h.Key] = i
	}
	out := vec(key)
	for {
		last := out[len(out)-1]
		next := last
		for _, other := range links[last] {
			if places[other] < places[next] {
				next = other
			}
		}
		if next == last {
			return out
		}
		out = append(out, next)
	}
}

// wantReached returns the keys that can be reached, found by going from all of them again and again.
func wantReached(list []impl.Item, kind int, many int, key int) []int {
	reached, links := map[int]bool{key: true}, wantLinks(list, kind, many)
	for range list {
		for _, from := range slices.Collect(maps.Keys(reached)) {
			for _, to := range links[from] {
				reached[to] = true
			}
		}
	}
	return slices.Sorted(maps.Keys(reached))
}

// wantMutual returns the pairs of neighbours of each other, for all pairs of keys in order.
func wantMutual(list []impl.Item, kind int, many int) [][]int {
	var out [][]int
	links := wantLinks(list, kind, many)
	for a := 1; a <= impl.MaxKey; a++ {
		for b := a + 1; b <= impl.MaxKey; b++ {
			if slices.Contains(links[a], b) && slices.Contains(links[b], a) {
				out = append(out, vec(a, b))
			}
		}
	}
	return out
}

// linksOf returns LinksOf by the keys of the items. There has to be a list for each item.
func linksOf(t *testing.T, list []impl.Item, kind int, many int) map[int][]int {
	t.Helper()
	lists := impl.LinksOf(list, kind, many)
	if len(lists) != len(list) {
		t.Fatalf("LinksOf(%v, %d, %d) = %v", list, kind, many, lists)
	}
	out := map[int][]int{}
	for i, x := range list {
		out[x.Key] = lists[i]
	}
	return out
}

// walked returns WalkTo, which has to begin at the key.
func walked(t *testing.T, list []impl.Item, kind int, many int, key int, at []int) []int {
	t.Helper()
	out, ok := impl.WalkTo(list, kind, many, key, at)
	if !ok || len(out) == 0 || out[0] != key {
		t.Fatalf("WalkTo(%v, %d, %d, %d, %v) = %v, %v", list, kind, many, key, at, out, ok)
	}
	return out
}

// reached returns ReachedFrom, which has to have the key, and to ascend.
func reached(t *testing.T, list []impl.Item, kind int, many int, key int) []int {
	t.Helper()
	out := impl.ReachedFrom(list, kind, many, key)
	if !slices.Contains(out, key) || !slices.IsSorted(out) || len(slices.Compact(slices.Clone(out))) != len(out) {
		t.Fatalf("ReachedFrom(%v, %d, %d, %d) = %v", list, kind, many, key, out)
	}
	return out
}

// hasPair reports whether a list of pairs has one with some keys.
func hasPair(pairs [][]int, a int, b int) bool {
	return slices.ContainsFunc(pairs, func(p []int) bool {
		return slices.Equal(p, vec(a, b))
	})
}
