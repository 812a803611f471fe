package tests

import (
	"slices"
	"testing"

	"loop.example/vectorstore/impl"
)

func TestP82FiltersCanBeOpen(t *testing.T) {
	for _, f := range allFilters() {
		for _, g := range []impl.Filter{filter(0, f.None, f.Any), filter(f.All, 0, f.Any), filter(f.All, f.None, 0), {}} {
			if !impl.ValidFilter(f) || !impl.ValidFilter(g) {
				t.Errorf("ValidFilter(%v) or of %v = false", f, g)
			}
		}
	}
}

func TestP83OpenFiltersPassAll(t *testing.T) {
	if got := tagsThatPass(impl.Filter{}); len(got) != 16 {
		t.Errorf("only %v pass the open filter", got)
	}
	for _, f := range allFilters() {
		all, none, some := filter(f.All, 0, 0), filter(0, f.None, 0), filter(0, 0, f.Any)
		parts := commonTags(commonTags(tagsThatPass(all), tagsThatPass(none)), tagsThatPass(some))
		if got := tagsThatPass(f); !slices.Equal(got, parts) {
			t.Errorf("the tags %v pass %v, but %v all its parts", got, f, parts)
		}
	}
}

func TestP84FiltersLookAtBits(t *testing.T) {
	many := map[bool]int{}
	for _, f := range allFilters() {
		for tags := range impl.MaxTags + 1 {
			all, none, some := true, true, f.Any == 0
			for bit := 1; bit <= impl.MaxTags; bit *= 2 {
				all = all && (!hasBit(f.All, bit) || hasBit(tags, bit))
				none = none && !(hasBit(f.None, bit) && hasBit(tags, bit))
				some = some || hasBit(f.Any, bit) && hasBit(tags, bit)
			}
			got := impl.Passes(f, tags)
			if got != (all && none && some) {
				t.Errorf("Passes(%v, %d) = %v", f, tags, got)
			}
			many[got]++
		}
	}
	if many[true] < 1000 || many[false] < 1000 {
		t.Errorf("the results of Passes are %v", many)
	}
}

func TestP85FilteredItemsPass(t *testing.T) {
	eachFiltered(func(list []impl.Item, f impl.Filter) {
		out := impl.FilterStore(list, f)
		next := 0
		for _, x := range list {
			if !impl.Passes(f, x.Tags) {
				continue
			}
			if next >= len(out) || !sameItem(out[next], x) {
				t.Fatalf("FilterStore(%v, %v) = %v has not %v at %d", list, f, out, x, next)
			}
			next++
		}
		if next != len(out) || !impl.ValidStore(out) {
			t.Errorf("FilterStore(%v, %v) = %v", list, f, out)
		}
	})
}

func TestP86WhatPassesPassesAgain(t *testing.T) {
	eachFiltered(func(list []impl.Item, f impl.Filter) {
		once := impl.FilterStore(list, f)
		if twice := impl.FilterStore(once, f); !sameItems(once, twice) {
			t.Errorf("FilterStore(%v, %v) = %v, and then %v", list, f, once, twice)
		}
		if open := impl.FilterStore(list, impl.Filter{}); !sameItems(open, list) {
			t.Errorf("FilterStore(%v) with the open filter = %v", list, open)
		}
	})
}

func TestP87FilteredHitsPass(t *testing.T) {
	eachFilteredSearch(func(list []impl.Item, f impl.Filter, kind int, at []int) {
		has, some := itemsOf(list), impl.FilterStore(list, f)
		for _, k := range vec(1, 3, impl.MaxItems) {
			hits, want := impl.FilterNearest(list, f, kind, at, k), nearestOf(t, some, kind, at, k)
			if !slices.Equal(hits, want) {
				t.Errorf("FilterNearest(%v, %v, %d, %v, %d) = %v, not %v", list, f, kind, at, k, hits, want)
			}
			for _, h := range hits {
				if !impl.Passes(f, has[h.Key].Tags) {
					t.Errorf("FilterNearest(%v, %v, %d, %v, %d) has %v", list, f, kind, at, k, h)
				}
			}
		}
	})
}

func TestP88OpenFiltersDoNotChangeTheNearest(t *testing.T) {
	eachSearch(allKinds(), func(list []impl.Item, kind int, at []int) {
		for _, k := range vec(1, 2, 7, impl.MaxItems) {
			want := nearestOf(t, list, kind, at, k)
			if got := impl.FilterNearest(list, impl.Filter{}, kind, at, k); !slices.Equal(got, want) {
				t.Errorf("FilterNearest(%v, %d, %v, %d) with the open filter = %v, not %v", list, kind, at, k, got, want)
			}
		}
	})
}

func TestP89BothFiltersArePassed(t *testing.T) {
	checked := 0
	eachTwoFilters(func(f impl.Filter, g impl.Filter) {
		if f.Any != 0 && g.Any != 0 {
			return
		}
		checked++
		want := commonTags(tagsThatPass(f), tagsThatPass(g))
		if got := tagsThatPass(both(t, f, g)); !slices.Equal(got, want) {
			t.Errorf("the tags %v pass BothFilters(%v, %v), but %v pass both", got, f, g, want)
		}
	})
	if checked < 500 {
		t.Errorf("only %d pairs of filters have one filter", checked)
	}
}

func TestP90TheOrderOfFiltersDoesNotMatter(t *testing.T) {
	eachTwoFilters(func(f impl.Filter, g impl.Filter) {
		if f.Any != 0 && g.Any != 0 {
			return
		}
		if one, other := both(t, f, g), both(t, g, f); one != other {
			t.Errorf("BothFilters(%v, %v) = %v, and the other way round %v", f, g, one, other)
		}
	})
	for _, f := range allFilters() {
		if one, other := both(t, f, impl.Filter{}), both(t, impl.Filter{}, f); one != f || other != f {
			t.Errorf("BothFilters of %v and the open filter = %v and %v", f, one, other)
		}
	}
}

func TestP161FiltersKeepEnough(t *testing.T) {
	eachFilteredSearch(func(list []impl.Item, f impl.Filter, kind int, at []int) {
		pass := 0
		for _, x := range list {
			if impl.Passes(f, x.Tags) {
				pass++
			}
		}
		for _, k := range vec(1, 2, 5, impl.MaxItems) {
			if got := impl.FilterNearest(list, f, kind, at, k); len(got) != min(k, pass) {
				t.Errorf("FilterNearest(%v, %v, %d, %v, %d) = %v, but %d pass", list, f, kind, at, k, got, pass)
			}
		}
	})
}

func TestP162FiltersCanBeAppliedOneByOne(t *testing.T) {
	fewer := 0
	for _, list := range append(filterStores()[8:], nil) {
		eachTwoFilters(func(f impl.Filter, g impl.Filter) {
			if f.Any != 0 && g.Any != 0 {
				return
			}
			first := impl.FilterStore(list, f)
			want := impl.FilterStore(first, g)
			if got := impl.FilterStore(list, both(t, f, g)); !sameItems(got, want) {
				t.Errorf("FilterStore(%v) with both of %v and %v = %v, not %v", list, f, g, got, want)
			}
			if len(want) > 0 && len(want) < len(first) {
				fewer++
			}
		})
	}
	if fewer < 500 {
		t.Errorf("only %d second filters leave some items out", fewer)
	}
}
