package tests

import (
	"slices"
	"testing"

	"loop.example/vectorstore/impl"
)

// filter makes a filter.
func filter(all int, none int, some int) impl.Filter {
	return impl.Filter{All: all, None: none, Any: some}
}

// allFilters returns all valid filters.
func allFilters() []impl.Filter {
	var out []impl.Filter
	for all := range impl.MaxTags + 1 {
		for none := range impl.MaxTags + 1 {
			for some := range impl.MaxTags + 1 {
				out = append(out, filter(all, none, some))
			}
		}
	}
	return out
}

// sampleFilters returns valid filters whose parts are 0, one bit, several bits and all bits: also such as nothing passes.
func sampleFilters() []impl.Filter {
	var out []impl.Filter
	for _, all := range vec(0, 1, 6, 15) {
		for _, none := range vec(0, 1, 8, 15) {
			for _, some := range vec(0, 2, 9, 15) {
				out = append(out, filter(all, none, some))
			}
		}
	}
	return out
}

// badTags returns numbers that are no tags.
func badTags() []int {
	return append(badNumbers(), impl.MaxTags+1, impl.MaxTags+2, 2*impl.MaxTags+1, -impl.MaxTags, -impl.MaxTags-1)
}

// badFilters returns filters with one or more parts that are not valid.
func badFilters() []impl.Filter {
	var out []impl.Filter
	for _, bad := range badTags() {
		for _, good := range vec(0, 1, 15) {
			out = append(out, filter(bad, good, 0), filter(good, bad, 0), filter(0, good, bad), filter(good, 0, bad), filter(0, bad, good))
		}
		out = append(out, filter(bad, bad, bad))
	}
	return out
}

// taggedStore returns a store with 16 items, each with other tags, from 15 down to 0.
func taggedStore() []impl.Item {
	list := fullStore()
	for i := range list {
		list[i].Tags = impl.MaxTags - i
	}
	return list
}

// filterStores returns valid stores of all sizes, also such as have the same tags for all items.
func filterStores() [][]impl.Item {
	out := append(sampleStores(), tieStores()...)
	for _, tags := range vec(0, 6, impl.MaxTags) {
		list := fullStore()
		for i := range list {
			list[i].Tags = tags
		}
		out = append(out, list)
	}
	return append(out, taggedStore())
}

// hasBit reports whether a number has the bit with a value.
func hasBit(n int, bit int) bool {
	return n/bit%2 == 1
}

// wantPasses reports whether tags pass a filter, bit by bit.
func wantPasses(f impl.Filter, tags int) bool {
	found := f.Any == 0
	for _, bit := range vec(1, 2, 4, 8) {
		if hasBit(f.All, bit) && !hasBit(tags, bit) || hasBit(f.None, bit) && hasBit(tags, bit) {
			return false
		}
		found = found || hasBit(f.Any, bit) && hasBit(tags, bit)
	}
	return found
}

// wantFiltered returns the items that pass a filter.
func wantFiltered(list []impl.Item, f impl.Filter) []impl.Item {
	var out []impl.Item
	for _, x := range list {
		if wantPasses(f, x.Tags) {
			out = append(out, x)
		}
	}
	return out
}

// eachFiltered calls a function for all sample stores with many filters.
func eachFiltered(f func(list []impl.Item, g impl.Filter)) {
	for _, list := range filterStores() {
		for _, g := range sampleFilters() {
			f(list, g)
		}
	}
}

// eachFilteredSearch calls a function for all sample stores with many filters, kinds of distances and vectors.
func eachFilteredSearch(f func(list []impl.Item, g impl.Filter, kind int, at []int)) {
	eachFiltered(func(list []impl.Item, g impl.Filter) {
		for _, kind := range allKinds() {
			for _, at := range [][]int{flat(0), vec(4, 0, 0, 0), vec(-7, 3, 60, 0)} {
				f(list, g, kind, at)
			}
		}
	})
}

// eachTwoFilters calls a function for many pairs of filters, none, one or both of which have an Any that is not 0.
func eachTwoFilters(f func(f impl.Filter, g impl.Filter)) {
	for _, one := range sampleFilters() {
		for _, other := range sampleFilters() {
			f(one, other)
		}
	}
}

// both returns BothFilters of filters of which at least one has Any 0. It has to be a valid filter.
func both(t *testing.T, f impl.Filter, g impl.Filter) impl.Filter {
	t.Helper()
	out, ok := impl.BothFilters(f, g)
	if !ok || !impl.ValidFilter(out) {
		t.Fatalf("BothFilters(%v, %v) = %v, %v", f, g, out, ok)
	}
	return out
}

// tagsThatPass returns all tags that pass a filter.
func tagsThatPass(f impl.Filter) []int {
	var out []int
	for tags := range impl.MaxTags + 1 {
		if impl.Passes(f, tags) {
			out = append(out, tags)
		}
	}
	return out
}

// commonTags returns the tags that are in two ascending lists.
func commonTags(a []int, b []int) []int {
	return slices.DeleteFunc(slices.Clone(a), func(tags int) bool {
		return !slices.Contains(b, tags)
	})
}
