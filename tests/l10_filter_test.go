package tests

import (
	"slices"
	"testing"

	"loop.example/vectorstore/impl"
)

func TestValidFilterOrdinary(t *testing.T) {
	for _, f := range allFilters() {
		if !impl.ValidFilter(f) {
			t.Errorf("ValidFilter(%v) = false", f)
		}
	}
	if !impl.ValidFilter(impl.Filter{}) || !impl.ValidFilter(filter(15, 15, 15)) || !impl.ValidFilter(filter(4, 4, 0)) {
		t.Error("ValidFilter of the open filter, of all bits or of one bit in two parts")
	}
}

func TestValidFilterInvalid(t *testing.T) {
	for _, f := range badFilters() {
		if impl.ValidFilter(f) {
			t.Errorf("ValidFilter(%v) = true", f)
		}
	}
	for i, f := range []impl.Filter{filter(16, 0, 0), filter(0, 16, 0), filter(0, 0, 16), filter(-1, 0, 0), filter(0, -1, 0), filter(0, 0, -1)} {
		if impl.ValidFilter(f) {
			t.Errorf("ValidFilter of %d = true", i)
		}
	}
}

func TestPassesOrdinary(t *testing.T) {
	every := vec(0, 1, 2, 3, 4, 5, 6, 7, 8, 9, 10, 11, 12, 13, 14, 15)
	for _, c := range []struct {
		f    impl.Filter
		want []int
	}{
		{filter(0, 0, 0), every},
		{filter(1, 0, 0), vec(1, 3, 5, 7, 9, 11, 13, 15)},
		{filter(6, 0, 0), vec(6, 7, 14, 15)},
		{filter(15, 0, 0), vec(15)},
		{filter(0, 8, 0), vec(0, 1, 2, 3, 4, 5, 6, 7)},
		{filter(0, 5, 0), vec(0, 2, 8, 10)},
		{filter(0, 15, 0), vec(0)},
		{filter(0, 0, 4), vec(4, 5, 6, 7, 12, 13, 14, 15)},
		{filter(0, 0, 9), vec(1, 3, 5, 7, 8, 9, 10, 11, 12, 13, 14, 15)},
		{filter(0, 0, 15), every[1:]},
		{filter(1, 2, 0), vec(1, 5, 9, 13)},
		{filter(1, 2, 12), vec(5, 9, 13)},
		{filter(1, 2, 4), vec(5, 13)},
		// A bit of Any may be one of All too, and then nothing more is asked for.
		{filter(3, 0, 1), vec(3, 7, 11, 15)},
		{filter(3, 0, 5), vec(3, 7, 11, 15)},
		// A bit of Any that is in None too is no help.
		{filter(0, 4, 6), vec(2, 3, 10, 11)},
		{filter(8, 7, 0), vec(8)},
		{filter(5, 10, 15), vec(5)},
		// Nothing passes.
		{filter(4, 4, 0), nil},
		{filter(7, 12, 0), nil},
		{filter(15, 1, 0), nil},
		{filter(15, 15, 15), nil},
		{filter(0, 6, 6), nil},
		{filter(0, 15, 1), nil},
	} {
		for tags := range 16 {
			if got := impl.Passes(c.f, tags); got != slices.Contains(c.want, tags) {
				t.Errorf("Passes(%v, %d) = %v", c.f, tags, got)
			}
		}
	}
}

func TestPassesAll(t *testing.T) {
	for _, f := range allFilters() {
		for tags := range impl.MaxTags + 1 {
			if got := impl.Passes(f, tags); got != wantPasses(f, tags) {
				t.Errorf("Passes(%v, %d) = %v", f, tags, got)
			}
		}
	}
}

func TestPassesInvalid(t *testing.T) {
	for _, f := range badFilters() {
		for tags := range impl.MaxTags + 1 {
			if impl.Passes(f, tags) {
				t.Errorf("Passes(%v, %d) = true", f, tags)
			}
		}
	}
	for _, tags := range badTags() {
		for _, f := range allFilters() {
			if impl.Passes(f, tags) {
				t.Errorf("Passes(%v, %d) = true", f, tags)
			}
		}
		if impl.Passes(filter(tags, 0, 0), tags) || impl.Passes(filter(0, 0, tags), tags) {
			t.Errorf("Passes of tags and filters of %d = true", tags)
		}
	}
}

func TestFilterStoreOrdinary(t *testing.T) {
	list := []impl.Item{item(10, flat(0), 1), item(20, vec(3, 0, 0, 0), 3), item(30, vec(0, 4, 0, 0), 4), item(40, vec(10, 10, 0, 0), 0), item(99, flat(-100), 15)}
	for _, c := range []struct {
		f    impl.Filter
		want []impl.Item
	}{
		{filter(0, 0, 0), list},
		{filter(0, 0, 5), []impl.Item{list[0], list[1], list[2], list[4]}},
		{filter(1, 0, 0), []impl.Item{list[0], list[1], list[4]}},
		{filter(1, 2, 0), []impl.Item{list[0]}},
		{filter(0, 2, 0), []impl.Item{list[0], list[2], list[3]}},
		{filter(0, 1, 12), []impl.Item{list[2]}},
		{filter(15, 0, 0), []impl.Item{list[4]}},
		{filter(0, 15, 0), []impl.Item{list[3]}},
		{filter(0, 0, 15), []impl.Item{list[0], list[1], list[2], list[4]}},
		{filter(8, 4, 0), nil},
		{filter(1, 1, 0), nil},
	} {
		if got := impl.FilterStore(list, c.f); !sameItems(got, c.want) {
			t.Errorf("FilterStore(%v, %v) = %v, not %v", list, c.f, got, c.want)
		}
		for _, empty := range [][]impl.Item{nil, {}} {
			if got := impl.FilterStore(empty, c.f); len(got) != 0 {
				t.Errorf("FilterStore of no items with %v = %v", c.f, got)
			}
		}
	}
}

func TestFilterStoreOneItem(t *testing.T) {
	for tags := range impl.MaxTags + 1 {
		one := []impl.Item{item(99, flat(-100), tags)}
		for _, f := range allFilters() {
			got := impl.FilterStore(one, f)
			if pass := wantPasses(f, tags); pass && !sameItems(got, one) || !pass && len(got) != 0 {
				t.Errorf("FilterStore(%v, %v) = %v", one, f, got)
			}
		}
	}
}

func TestFilterStoreAll(t *testing.T) {
	part := 0
	eachFiltered(func(list []impl.Item, f impl.Filter) {
		got, want := impl.FilterStore(list, f), wantFiltered(list, f)
		if !sameItems(got, want) {
			t.Errorf("FilterStore(%v, %v) = %v, not %v", list, f, got, want)
		}
		if len(got) > 0 && len(got) < len(list) {
			part++
		}
	})
	if part < 200 {
		t.Errorf("only %d filters let a part of the items pass", part)
	}
}

func TestFilterStoreInvalid(t *testing.T) {
	for _, list := range badStores() {
		for _, f := range append(sampleFilters(), badFilters()[0]) {
			if got := impl.FilterStore(list, f); len(got) != 0 {
				t.Errorf("FilterStore(%v, %v) = %v", list, f, got)
			}
		}
	}
	for _, list := range filterStores() {
		for _, f := range badFilters() {
			if got := impl.FilterStore(list, f); len(got) != 0 {
				t.Errorf("FilterStore(%v, %v) = %v", list, f, got)
			}
		}
	}
}

func TestFilterNearestOrdinary(t *testing.T) {
	list := []impl.Item{item(10, flat(0), 1), item(20, vec(3, 0, 0, 0), 3), item(30, vec(0, 4, 0, 0), 4), item(40, vec(10, 10, 0, 0), 0), item(50, vec(6, 0, 0, 0), 5)}
	at := vec(3, 0, 0, 0)
	for _, c := range []struct {
		f    impl.Filter
		kind int
		want []impl.Hit
	}{
		{filter(0, 0, 0), impl.DistSum, []impl.Hit{hit(20, 0), hit(10, 3), hit(50, 3), hit(30, 7), hit(40, 17)}},
		// The nearest item does not pass.
		{filter(0, 2, 0), impl.DistSum, []impl.Hit{hit(10, 3), hit(50, 3), hit(30, 7), hit(40, 17)}},
		{filter(1, 2, 0), impl.DistSquare, []impl.Hit{hit(10, 9), hit(50, 9)}},
		{filter(0, 2, 0), impl.DistMost, []impl.Hit{hit(10, 3), hit(50, 3), hit(30, 4), hit(40, 10)}},
		{filter(0, 1, 0), impl.DistCount, []impl.Hit{hit(30, 2), hit(40, 2)}},
		{filter(0, 0, 6), impl.DistSum, []impl.Hit{hit(20, 0), hit(50, 3), hit(30, 7)}},
		{filter(0, 15, 0), impl.DistSquare, []impl.Hit{hit(40, 149)}},
		{filter(8, 0, 0), impl.DistSum, nil},
		{filter(4, 4, 0), impl.DistSum, nil},
	} {
		for k := 1; k <= impl.MaxItems; k++ {
			if got := impl.FilterNearest(list, c.f, c.kind, at, k); !slices.Equal(got, c.want[:min(k, len(c.want))]) {
				t.Errorf("FilterNearest(%v, %v, %d, %d) = %v, not the first of %v", list, c.f, c.kind, k, got, c.want)
			}
			for _, empty := range [][]impl.Item{nil, {}} {
				if got := impl.FilterNearest(empty, c.f, c.kind, at, k); len(got) != 0 {
					t.Errorf("FilterNearest of no items with %v = %v", c.f, got)
				}
			}
		}
	}
}

func TestFilterNearestFull(t *testing.T) {
	// The tags are 15, 14 and so on to 0, and all items are as far.
	list := corners(10)
	for _, c := range []struct {
		f    impl.Filter
		keys []int
	}{
		{filter(0, 0, 0), keysOf(list)},
		{filter(8, 0, 0), keysOf(list[:8])},
		{filter(0, 8, 0), keysOf(list[8:])},
		{filter(0, 15, 0), vec(78)},
		{filter(15, 0, 0), vec(3)},
		{filter(0, 0, 15), keysOf(list[:15])},
		{filter(6, 9, 0), vec(48)},
	} {
		for k := 1; k <= impl.MaxItems; k++ {
			got := impl.FilterNearest(list, c.f, impl.DistSum, flat(0), k)
			if !slices.Equal(hitKeys(got), c.keys[:min(k, len(c.keys))]) {
				t.Errorf("FilterNearest of 16 items with %v, k %d, = %v", c.f, k, got)
			}
		}
	}
}

func TestFilterNearestAll(t *testing.T) {
	missed := 0
	eachFilteredSearch(func(list []impl.Item, f impl.Filter, kind int, at []int) {
		want := wantHits(wantFiltered(list, f), kind, at)
		if len(want) > 0 && want[0] != wantHits(list, kind, at)[0] {
			missed++
		}
		for _, k := range vec(1, 2, 5, impl.MaxItems) {
			if got := impl.FilterNearest(list, f, kind, at, k); !slices.Equal(got, want[:min(k, len(want))]) {
				t.Errorf("FilterNearest(%v, %v, %d, %v, %d) = %v, not the first of %v", list, f, kind, at, k, got, want)
			}
		}
	})
	if missed < 500 {
		t.Errorf("only %d searches miss the nearest item", missed)
	}
}

func TestFilterNearestInvalid(t *testing.T) {
	check := func(list []impl.Item, f impl.Filter, kind int, at []int, k int) {
		if got := impl.FilterNearest(list, f, kind, at, k); len(got) != 0 {
			t.Errorf("FilterNearest(%v, %v, %d, %v, %d) = %v", list, f, kind, at, k, got)
		}
	}
	badSearches(allKinds(), badKinds(), func(list []impl.Item, kind int, at []int, k int) {
		for _, f := range []impl.Filter{{}, filter(0, 8, 0), filter(0, 0, 15), filter(-1, 0, 0)} {
			check(list, f, kind, at, k)
		}
	})
	for _, list := range sampleStores() {
		for _, kind := range allKinds() {
			for _, f := range badFilters() {
				check(list, f, kind, flat(1), 1)
				check(list, f, kind, flat(1), impl.MaxItems)
			}
		}
	}
}

func TestBothFiltersOrdinary(t *testing.T) {
	for _, c := range []struct{ f, g, want impl.Filter }{
		{filter(0, 0, 0), filter(0, 0, 0), filter(0, 0, 0)},
		{filter(1, 2, 0), filter(4, 0, 8), filter(5, 2, 8)},
		{filter(1, 2, 12), filter(2, 1, 0), filter(3, 3, 12)},
		{filter(3, 0, 0), filter(6, 0, 0), filter(7, 0, 0)},
		{filter(0, 5, 0), filter(0, 12, 0), filter(0, 13, 0)},
		{filter(9, 6, 0), filter(9, 6, 0), filter(9, 6, 0)},
		{filter(0, 0, 15), filter(15, 15, 0), filter(15, 15, 15)},
		{filter(15, 0, 0), filter(0, 15, 0), filter(15, 15, 0)},
		{filter(0, 0, 1), filter(0, 0, 0), filter(0, 0, 1)},
		{filter(0, 0, 0), filter(0, 0, 6), filter(0, 0, 6)},
	} {
		for _, pair := range [][2]impl.Filter{{c.f, c.g}, {c.g, c.f}} {
			if got, ok := impl.BothFilters(pair[0], pair[1]); !ok || got != c.want {
				t.Errorf("BothFilters(%v, %v) = %v, %v, not %v", pair[0], pair[1], got, ok, c.want)
			}
		}
	}
}

func TestBothFiltersWithTwoAny(t *testing.T) {
	for one := 1; one <= impl.MaxTags; one++ {
		for other := 1; other <= impl.MaxTags; other++ {
			for _, parts := range [][2]int{{0, 0}, {1, 2}, {15, 0}} {
				f, g := filter(parts[0], parts[1], one), filter(parts[1], parts[0], other)
				if got, ok := impl.BothFilters(f, g); ok || got != (impl.Filter{}) {
					t.Errorf("BothFilters(%v, %v) = %v, %v", f, g, got, ok)
				}
			}
		}
		// Not even a filter and itself are one filter.
		f := filter(2, 4, one)
		if got, ok := impl.BothFilters(f, f); ok || got != (impl.Filter{}) {
			t.Errorf("BothFilters(%v, %v) = %v, %v", f, f, got, ok)
		}
	}
}

func TestBothFiltersAll(t *testing.T) {
	failed := 0
	eachTwoFilters(func(f impl.Filter, g impl.Filter) {
		got, ok := impl.BothFilters(f, g)
		want := impl.Filter{}
		if f.Any == 0 || g.Any == 0 {
			for _, bit := range vec(1, 2, 4, 8) {
				if hasBit(f.All, bit) || hasBit(g.All, bit) {
					want.All += bit
				}
				if hasBit(f.None, bit) || hasBit(g.None, bit) {
					want.None += bit
				}
			}
			want.Any = max(f.Any, g.Any)
		} else {
			failed++
		}
		if got != want || ok != (f.Any == 0 || g.Any == 0) {
			t.Errorf("BothFilters(%v, %v) = %v, %v, not %v", f, g, got, ok, want)
		}
	})
	if failed < 500 {
		t.Errorf("only %d pairs have no filter", failed)
	}
}

func TestBothFiltersInvalid(t *testing.T) {
	check := func(f impl.Filter, g impl.Filter) {
		if got, ok := impl.BothFilters(f, g); ok || got != (impl.Filter{}) {
			t.Errorf("BothFilters(%v, %v) = %v, %v", f, g, got, ok)
		}
	}
	for _, bad := range badFilters() {
		for _, f := range sampleFilters() {
			check(bad, f)
			check(f, bad)
		}
		for _, other := range badFilters() {
			check(bad, other)
		}
	}
}

func TestFilterArgumentsAreNotChanged(t *testing.T) {
	eachFiltered(func(list []impl.Item, f impl.Filter) {
		list, at := roomyItems(list), roomy(vec(2, -1, 0, 0))
		wantList, wantAt := cloneItems(list), slices.Clone(at[:cap(at)])
		impl.FilterStore(list, f)
		for _, kind := range allKinds() {
			impl.FilterNearest(list, f, kind, at, 3)
			impl.FilterNearest(list, f, kind, at, impl.MaxItems)
		}
		if !sameMemory(list, wantList) || !slices.Equal(at[:cap(at)], wantAt) {
			t.Errorf("arguments are changed: %v, %v", list[:cap(list)], at[:cap(at)])
		}
	})
}

func TestFilterResultsAreFresh(t *testing.T) {
	eachFiltered(func(list []impl.Item, f impl.Filter) {
		list, at := roomyItems(list), roomy(vec(2, -1, 0, 0))
		once, twice := impl.FilterStore(list, f), impl.FilterStore(list, f)
		checkFresh(t, "FilterStore", once, list, vectorsOf(twice)...)
		if overlap(once, twice) {
			t.Errorf("FilterStore(%v, %v) twice shares its items", list, f)
		}
		hits := impl.FilterNearest(list, f, impl.DistSum, at, 5)
		if overlap(hits, impl.FilterNearest(list, f, impl.DistSum, at, 5)) || overlap(hits, impl.Nearest(list, impl.DistSum, at, 5)) {
			t.Errorf("two searches with %v in %v share their hits", f, list)
		}
	})
	// The items of a store may have one vector together, those of a result may not.
	at := flat(3)
	list := []impl.Item{item(1, at, 1), item(2, at, 2), item(3, at, 3)}
	out := impl.FilterStore(list, filter(1, 0, 0))
	if len(out) != 2 {
		t.Fatalf("FilterStore = %v", out)
	}
	checkFresh(t, "FilterStore", out, list)
}

func TestFilterResultsKeepNothing(t *testing.T) {
	list := taggedStore()
	for range 2 {
		out, hits := impl.FilterStore(list, filter(0, 11, 0)), impl.FilterNearest(list, filter(0, 11, 0), impl.DistSum, list[15].At, 1)
		if !sameItems(out, []impl.Item{list[11], list[15]}) || !slices.Equal(hits, []impl.Hit{hit(96, 0)}) {
			t.Fatalf("FilterStore(%v) = %v, FilterNearest = %v", list, out, hits)
		}
		// What is done to a result does not come back in the next one.
		for _, x := range out {
			clear(x.At)
		}
		clear(out)
		clear(hits)
	}
}
