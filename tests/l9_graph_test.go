package tests

import (
	"slices"
	"testing"

	"loop.example/vectorstore/impl"
)

func TestGraphConstants(t *testing.T) {
	if impl.MaxLinks != 5 {
		t.Errorf("MaxLinks = %d", impl.MaxLinks)
	}
}

// fourItems returns a store with three items near each other and one that is far.
func fourItems() []impl.Item {
	return []impl.Item{item(10, flat(0), 1), item(20, vec(3, 0, 0, 0), 3), item(30, vec(0, 4, 0, 0), 4), item(40, vec(10, 10, 0, 0), 0)}
}

func TestLinksOfOrdinary(t *testing.T) {
	for _, c := range []struct {
		list []impl.Item
		kind int
		all  [][]int
	}{
		{fourItems(), impl.DistSum, [][]int{vec(20, 30, 40), vec(10, 30, 40), vec(10, 20, 40), vec(30, 20, 10)}},
		{fourItems(), impl.DistMost, [][]int{vec(20, 30, 40), vec(10, 30, 40), vec(10, 20, 40), vec(10, 20, 30)}},
		{fourItems(), impl.DistSquare, [][]int{vec(20, 30, 40), vec(10, 30, 40), vec(10, 20, 40), vec(30, 20, 10)}},
		{fourItems(), impl.DistCount, [][]int{vec(20, 30, 40), vec(10, 30, 40), vec(10, 20, 40), vec(10, 20, 30)}},
		// Of neighbours as near the one with the least key comes first, wherever it lies.
		{line(0, 5, -5), impl.DistSum, [][]int{vec(2, 3), vec(1, 3), vec(1, 2)}},
		{line(5, -5, 0), impl.DistSum, [][]int{vec(3, 2), vec(3, 1), vec(1, 2)}},
		{line(4, 0, 8, 2, 6, 4), impl.DistMost, [][]int{vec(6, 4, 5, 2, 3), vec(4, 1, 6, 5, 3), vec(5, 1, 6, 4, 2), vec(1, 2, 6, 5, 3), vec(1, 3, 6, 4, 2), vec(1, 4, 5, 2, 3)}},
		{line(7, 7, 7), impl.DistSquare, [][]int{vec(2, 3), vec(1, 3), vec(1, 2)}},
		{line(9, -100), impl.DistCount, [][]int{vec(2), vec(1)}},
	} {
		for many := 1; many <= impl.MaxLinks; many++ {
			var want [][]int
			for _, keys := range c.all {
				want = append(want, keys[:min(many, len(keys))])
			}
			if got := impl.LinksOf(c.list, c.kind, many); !sameVectors(got, want) {
				t.Errorf("LinksOf(%v, %d, %d) = %v, not %v", c.list, c.kind, many, got, want)
			}
		}
	}
}

func TestLinksOfFewItems(t *testing.T) {
	for many := 1; many <= impl.MaxLinks; many++ {
		for _, kind := range allKinds() {
			for _, empty := range [][]impl.Item{nil, {}} {
				if got := impl.LinksOf(empty, kind, many); len(got) != 0 {
					t.Errorf("LinksOf no items, kind %d, = %v", kind, got)
				}
			}
			one := []impl.Item{item(99, flat(-100), 15)}
			if got := impl.LinksOf(one, kind, many); len(got) != 1 || len(got[0]) != 0 {
				t.Errorf("LinksOf one item, kind %d, = %v", kind, got)
			}
		}
	}
}

func TestLinksOfFull(t *testing.T) {
	list := evenLine(6)
	for many, c := range [][][]int{
		nil,
		{vec(2), vec(1), vec(2), vec(7), vec(15)},
		{vec(2, 3), vec(1, 3), vec(2, 4), vec(7, 9), vec(15, 14)},
		{vec(2, 3, 4), vec(1, 3, 4), vec(2, 4, 1), vec(7, 9, 6), vec(15, 14, 13)},
		{vec(2, 3, 4, 5), vec(1, 3, 4, 5), vec(2, 4, 1, 5), vec(7, 9, 6, 10), vec(15, 14, 13, 12)},
		{vec(2, 3, 4, 5, 6), vec(1, 3, 4, 5, 6), vec(2, 4, 1, 5, 6), vec(7, 9, 6, 10, 5), vec(15, 14, 13, 12, 11)},
	} {
		if many == 0 {
			continue
		}
		links := linksOf(t, list, impl.DistSum, many)
		for i, key := range vec(1, 2, 3, 8, 16) {
			if !slices.Equal(links[key], c[i]) {
				t.Errorf("LinksOf 16 items has %v for %d, not %v", links[key], key, c[i])
			}
		}
	}
	// All items are at one place, so that an item is not the first one of those that are nearest to it.
	for key, got := range linksOf(t, samePlace(16), impl.DistSum, impl.MaxLinks) {
		want := slices.DeleteFunc(vec(1, 2, 3, 4, 5, 6), func(other int) bool { return other == key })
		if !slices.Equal(got, want[:5]) {
			t.Errorf("LinksOf 16 items at one place has %v for %d, not %v", got, key, want[:5])
		}
	}
}

func TestLinksOfAll(t *testing.T) {
	eachGraph(func(list []impl.Item, kind int, many int) {
		got, want := linksOf(t, list, kind, many), wantLinks(list, kind, many)
		for _, x := range list {
			if !slices.Equal(got[x.Key], want[x.Key]) {
				t.Errorf("LinksOf(%v, %d, %d) has %v for %d, not %v", list, kind, many, got[x.Key], x.Key, want[x.Key])
			}
		}
	})
}

func TestLinksOfInvalid(t *testing.T) {
	badGraphs(func(list []impl.Item, kind int, many int) {
		if got := impl.LinksOf(list, kind, many); len(got) != 0 {
			t.Errorf("LinksOf(%v, %d, %d) = %v", list, kind, many, got)
		}
	})
}

func TestWalkToOrdinary(t *testing.T) {
	wide := evenLine(6)
	for _, c := range []struct {
		list []impl.Item
		kind int
		many int
		key  int
		at   []int
		want []int
	}{
		{fourItems(), impl.DistSum, 1, 40, flat(0), vec(40, 30, 10)},
		{fourItems(), impl.DistSum, 1, 10, vec(10, 10, 0, 0), vec(10, 20)},
		{fourItems(), impl.DistSum, 2, 10, vec(10, 10, 0, 0), vec(10, 30)},
		{fourItems(), impl.DistSum, 3, 10, vec(10, 10, 0, 0), vec(10, 40)},
		{fourItems(), impl.DistCount, 1, 40, vec(3, 4, 0, 0), vec(40, 10, 20)},
		{fourItems(), impl.DistCount, 2, 40, vec(3, 4, 0, 0), vec(40, 20)},
		// Walks that end at once: at the nearest item, and where only others are nearer.
		{fourItems(), impl.DistSum, 1, 10, flat(0), vec(10)},
		{fourItems(), impl.DistSum, 5, 40, vec(10, 10, 0, 0), vec(40)},
		{fourItems(), impl.DistSum, 1, 20, vec(20, 0, 0, 0), vec(20)},
		{islands(), impl.DistSum, 1, 2, vec(90, 0, 0, 0), vec(2)},
		// Walks over several items, to the vector of an item.
		{wide, impl.DistSum, 1, 16, flat(0), vec(16, 15, 14, 13, 12, 11, 10, 9, 8, 7, 6, 5, 4, 3, 2, 1)},
		{wide, impl.DistSum, 1, 1, vec(90, 0, 0, 0), vec(1, 2)},
		{wide, impl.DistMost, 2, 1, vec(90, 0, 0, 0), vec(1, 3, 4, 5, 6, 7, 8, 9, 10, 11, 12, 13, 14, 15, 16)},
		{wide, impl.DistSquare, 3, 10, flat(0), vec(10, 8, 6, 4, 2, 1)},
		{wide, impl.DistSquare, 3, 10, vec(90, 0, 0, 0), vec(10, 11, 12, 13, 14, 15, 16)},
		{wide, impl.DistSquare, 5, 1, vec(90, 0, 0, 0), vec(1, 6, 8, 10, 12, 14, 16)},
		// The keys 8 and 9 are as near: walks go on from 9 to 8, but not back, and to 8 from where both are neighbours.
		{wide, impl.DistSum, 2, 1, vec(45, 0, 0, 0), vec(1, 3, 4, 5, 6, 7, 8)},
		{wide, impl.DistSum, 2, 16, vec(45, 0, 0, 0), vec(16, 14, 13, 12, 11, 10, 9, 8)},
		{wide, impl.DistSum, 1, 9, vec(45, 0, 0, 0), vec(9, 8)},
		{wide, impl.DistSum, 5, 16, vec(45, 0, 0, 0), vec(16, 11, 8)},
		{line(-1, 1), impl.DistSum, 1, 2, flat(0), vec(2, 1)},
		{line(-1, 1), impl.DistSum, 1, 1, flat(0), vec(1)},
		{line(1, -1), impl.DistSum, 5, 2, flat(0), vec(2, 1)},
		{line(4, 4), impl.DistMost, 1, 2, vec(50, 0, 0, 0), vec(2, 1)},
		{line(4, 4), impl.DistMost, 1, 1, vec(50, 0, 0, 0), vec(1)},
		// A smaller key alone is not enough.
		{line(-2, 1), impl.DistSum, 1, 2, flat(0), vec(2)},
		{line(-2, 1), impl.DistSum, 1, 1, flat(0), vec(1, 2)},
	} {
		got, ok := impl.WalkTo(c.list, c.kind, c.many, c.key, c.at)
		if !ok || !slices.Equal(got, c.want) {
			t.Errorf("WalkTo(%v, %d, %d, %d, %v) = %v, %v, not %v", c.list, c.kind, c.many, c.key, c.at, got, ok, c.want)
		}
	}
}

func TestWalkToOneItem(t *testing.T) {
	one := []impl.Item{item(99, flat(-100), 15)}
	for many := 1; many <= impl.MaxLinks; many++ {
		for _, kind := range allKinds() {
			for _, at := range [][]int{flat(-100), flat(100), flat(0)} {
				if got, ok := impl.WalkTo(one, kind, many, 99, at); !ok || !slices.Equal(got, vec(99)) {
					t.Errorf("WalkTo %v from one item, kind %d, = %v, %v", at, kind, got, ok)
				}
			}
		}
	}
}

func TestWalkToAll(t *testing.T) {
	lengths := map[int]int{}
	eachWalk(func(list []impl.Item, kind int, many int, key int, at []int) {
		got, ok := impl.WalkTo(list, kind, many, key, at)
		if want := wantWalk(list, kind, many, key, at); !ok || !slices.Equal(got, want) {
			t.Errorf("WalkTo(%v, %d, %d, %d, %v) = %v, %v, not %v", list, kind, many, key, at, got, ok, want)
		}
		lengths[min(len(got), 4)]++
	})
	if len(lengths) != 4 || lengths[1] < 500 || lengths[4] < 200 {
		t.Errorf("the lengths of the walks are %v", lengths)
	}
}

func TestWalkToInvalid(t *testing.T) {
	check := func(list []impl.Item, kind int, many int, key int, at []int) {
		if got, ok := impl.WalkTo(list, kind, many, key, at); ok || len(got) != 0 {
			t.Errorf("WalkTo(%v, %d, %d, %d, %v) = %v, %v", list, kind, many, key, at, got, ok)
		}
	}
	badGraphs(func(list []impl.Item, kind int, many int) {
		for _, key := range someKeys(list) {
			check(list, kind, many, key, flat(1))
		}
		check(list, kind, many, 0, nil)
	})
	for _, list := range sampleStores() {
		for _, kind := range allKinds() {
			for many := 1; many <= impl.MaxLinks; many++ {
				for _, key := range missingKeys(list) {
					check(list, kind, many, key, flat(1))
				}
				for _, at := range badVectors() {
					check(list, kind, many, someKeys(list)[0], at)
				}
			}
		}
	}
}

func TestReachedFromOrdinary(t *testing.T) {
	wide := evenLine(6)
	for _, c := range []struct {
		list []impl.Item
		many int
		key  int
		want []int
	}{
		{fourItems(), 1, 40, vec(10, 20, 30, 40)},
		{fourItems(), 1, 30, vec(10, 20, 30)},
		{fourItems(), 1, 20, vec(10, 20)},
		{fourItems(), 1, 10, vec(10, 20)},
		// With two neighbours none leads to the last item, with three all lead to all.
		{fourItems(), 2, 10, vec(10, 20, 30)},
		{fourItems(), 2, 40, vec(10, 20, 30, 40)},
		{fourItems(), 3, 10, vec(10, 20, 30, 40)},
		{fourItems(), 5, 20, vec(10, 20, 30, 40)},
		{islands(), 1, 6, vec(5, 6)},
		{islands(), 1, 7, vec(7, 8)},
		{islands(), 2, 1, vec(1, 2, 3, 4, 5, 6, 7, 8)},
		{line(0, 50, 1, 51, 2, 52), 2, 3, vec(1, 3, 5)},
		{line(0, 50, 1, 51, 2, 52), 2, 6, vec(2, 4, 6)},
		{line(0, 50, 1, 51, 2, 52), 3, 6, vec(1, 2, 3, 4, 5, 6)},
		{wide, 1, 1, vec(1, 2)},
		{wide, 1, 9, vec(1, 2, 3, 4, 5, 6, 7, 8, 9)},
		{wide, 1, 16, keysOf(wide)},
		{wide, 2, 1, keysOf(wide)},
		{wide, 5, 16, keysOf(wide)},
		{samePlace(16), 1, 9, vec(1, 2, 9)},
		{samePlace(16), 4, 9, vec(1, 2, 3, 4, 5, 9)},
		{samePlace(16), 5, 2, vec(1, 2, 3, 4, 5, 6)},
		{line(50, -50), 1, 2, vec(1, 2)},
		{line(50), 1, 1, vec(1)},
		{line(50), 5, 1, vec(1)},
	} {
		if got := impl.ReachedFrom(c.list, impl.DistSum, c.many, c.key); !slices.Equal(got, c.want) {
			t.Errorf("ReachedFrom(%v, %d, %d) = %v, not %v", c.list, c.many, c.key, got, c.want)
		}
	}
}

func TestReachedFromAll(t *testing.T) {
	part := 0
	eachGraph(func(list []impl.Item, kind int, many int) {
		for i := (kind + many) % 3; i < len(list); i += 3 {
			got, want := impl.ReachedFrom(list, kind, many, list[i].Key), wantReached(list, kind, many, list[i].Key)
			if !slices.Equal(got, want) {
				t.Errorf("ReachedFrom(%v, %d, %d, %d) = %v, not %v", list, kind, many, list[i].Key, got, want)
			}
			if len(got) < len(list) {
				part++
			}
		}
	})
	if part < 500 {
		t.Errorf("only %d items do not reach all others", part)
	}
}

func TestReachedFromInvalid(t *testing.T) {
	check := func(list []impl.Item, kind int, many int, key int) {
		if got := impl.ReachedFrom(list, kind, many, key); len(got) != 0 {
			t.Errorf("ReachedFrom(%v, %d, %d, %d) = %v", list, kind, many, key, got)
		}
	}
	badGraphs(func(list []impl.Item, kind int, many int) {
		for _, key := range someKeys(list) {
			check(list, kind, many, key)
		}
		check(list, kind, many, 0)
	})
	for _, list := range sampleStores() {
		for _, kind := range allKinds() {
			for many := 1; many <= impl.MaxLinks; many++ {
				for _, key := range missingKeys(list) {
					check(list, kind, many, key)
				}
			}
		}
	}
}

func TestMutualLinksOrdinary(t *testing.T) {
	var steps [][]int
	for key := 1; key < 16; key++ {
		steps = append(steps, vec(key, key+1))
	}
	var firstSix [][]int
	for a := 1; a <= 6; a++ {
		for b := a + 1; b <= 6; b++ {
			firstSix = append(firstSix, vec(a, b))
		}
	}
	for _, c := range []struct {
		list []impl.Item
		many int
		want [][]int
	}{
		{fourItems(), 1, [][]int{vec(10, 20)}},
		{fourItems(), 2, [][]int{vec(10, 20), vec(10, 30), vec(20, 30)}},
		{fourItems(), 3, [][]int{vec(10, 20), vec(10, 30), vec(10, 40), vec(20, 30), vec(20, 40), vec(30, 40)}},
		{islands(), 1, [][]int{vec(1, 2), vec(3, 4), vec(5, 6), vec(7, 8)}},
		// The items with the keys 2 and 3 both have that with the key 1 as neighbour, which has one of them alone.
		{line(0, 5, -5), 1, [][]int{vec(1, 2)}},
		{line(0, 5, -5), 2, [][]int{vec(1, 2), vec(1, 3), vec(2, 3)}},
		{evenLine(6), 1, [][]int{vec(1, 2)}},
		{evenLine(6), 2, steps},
		{samePlace(16), 1, [][]int{vec(1, 2)}},
		{samePlace(16), 5, firstSix},
		{samePlace(6), 5, firstSix},
		{line(0, 10, 1, 11), 1, [][]int{vec(1, 3), vec(2, 4)}},
		{line(9, -9), 1, [][]int{vec(1, 2)}},
		{line(9, -9), 5, [][]int{vec(1, 2)}},
		{line(9), 5, nil},
		{nil, 1, nil},
		{[]impl.Item{}, 5, nil},
	} {
		if got := impl.MutualLinks(c.list, impl.DistSum, c.many); !sameVectors(got, c.want) {
			t.Errorf("MutualLinks(%v, %d) = %v, not %v", c.list, c.many, got, c.want)
		}
	}
}

func TestMutualLinksAll(t *testing.T) {
	oneWay := 0
	eachGraph(func(list []impl.Item, kind int, many int) {
		got, want := impl.MutualLinks(list, kind, many), wantMutual(list, kind, many)
		if !sameVectors(got, want) {
			t.Errorf("MutualLinks(%v, %d, %d) = %v, not %v", list, kind, many, got, want)
		}
		if 2*len(want) < len(list)*min(many, len(list)-1) {
			oneWay++
		}
	})
	if oneWay < 200 {
		t.Errorf("only %d stores have neighbours in one direction alone", oneWay)
	}
}

func TestMutualLinksInvalid(t *testing.T) {
	badGraphs(func(list []impl.Item, kind int, many int) {
		if got := impl.MutualLinks(list, kind, many); len(got) != 0 {
			t.Errorf("MutualLinks(%v, %d, %d) = %v", list, kind, many, got)
		}
	})
}

func TestGraphArgumentsAreNotChanged(t *testing.T) {
	eachGraph(func(list []impl.Item, kind int, many int) {
		list, at := roomyItems(list), roomy(vec(2, -1, 0, 0))
		wantList, wantAt := cloneItems(list), slices.Clone(at[:cap(at)])
		impl.LinksOf(list, kind, many)
		impl.MutualLinks(list, kind, many)
		for _, key := range someKeys(list) {
			impl.WalkTo(list, kind, many, key, at)
			impl.ReachedFrom(list, kind, many, key)
		}
		if !sameMemory(list, wantList) || !slices.Equal(at[:cap(at)], wantAt) {
			t.Errorf("arguments are changed: %v, %v", list[:cap(list)], at[:cap(at)])
		}
	})
}

func TestGraphResultsAreFresh(t *testing.T) {
	eachGraph(func(list []impl.Item, kind int, many int) {
		list, at := roomyItems(list), roomy(vec(2, -1, 0, 0))
		given := append(vectorsOf(list[:cap(list)]), at)
		checkFreshVectors(t, "LinksOf", impl.LinksOf(list, kind, many), impl.LinksOf(list, kind, many), given, list)
		checkFreshVectors(t, "MutualLinks", impl.MutualLinks(list, kind, many), impl.MutualLinks(list, kind, many), given, list)
		for _, key := range someKeys(list) {
			once, _ := impl.WalkTo(list, kind, many, key, at)
			twice, _ := impl.WalkTo(list, kind, many, key, at)
			results := [][]int{once, twice, impl.ReachedFrom(list, kind, many, key), impl.ReachedFrom(list, kind, many, key)}
			if overlapAny(results) {
				t.Errorf("the walks and reaches %v from %d in %v share memory", results, key, list)
			}
			for _, v := range results {
				for _, w := range given {
					if overlap(v, w) {
						t.Errorf("the keys %v from %d in %v share %v", v, key, list, w)
					}
				}
			}
		}
	})
}

func TestGraphResultsKeepNothing(t *testing.T) {
	list := fourItems()
	for range 2 {
		links, pairs := impl.LinksOf(list, impl.DistSum, 2), impl.MutualLinks(list, impl.DistSum, 1)
		walk, ok := impl.WalkTo(list, impl.DistSum, 1, 40, flat(0))
		reach := impl.ReachedFrom(list, impl.DistSum, 1, 30)
		if !sameVectors(links, [][]int{vec(20, 30), vec(10, 30), vec(10, 20), vec(30, 20)}) || !sameVectors(pairs, [][]int{vec(10, 20)}) {
			t.Fatalf("LinksOf(%v) = %v, MutualLinks = %v", list, links, pairs)
		}
		if !ok || !slices.Equal(walk, vec(40, 30, 10)) || !slices.Equal(reach, vec(10, 20, 30)) {
			t.Fatalf("WalkTo(%v) = %v, ReachedFrom = %v", list, walk, reach)
		}
		// What is done to a result does not come back in the next one.
		for _, keys := range append(append(links, pairs...), walk, reach) {
			clear(keys)
		}
	}
}
