package tests

import (
	"slices"
	"testing"

	"loop.example/vectorstore/impl"
)

func TestListsOfOrdinary(t *testing.T) {
	list := []impl.Item{item(10, flat(0), 1), item(20, vec(3, 0, 0, 0), 3), item(30, vec(0, 4, 0, 0), 4), item(40, vec(10, 10, 0, 0), 0)}
	for _, c := range []struct {
		centres [][]int
		list    []impl.Item
		want    [][]int
	}{
		{[][]int{flat(0), vec(10, 10, 0, 0)}, list, [][]int{vec(10, 20, 30), vec(40)}},
		{[][]int{vec(10, 10, 0, 0), flat(0)}, list, [][]int{vec(40), vec(10, 20, 30)}},
		{[][]int{flat(90)}, list, [][]int{vec(10, 20, 30, 40)}},
		// Centres without items have empty lists, at each place.
		{[][]int{flat(-90), flat(0), flat(90)}, list, [][]int{nil, vec(10, 20, 30, 40), nil}},
		{lineCentres(0, 10), nil, [][]int{nil, nil}},
		{lineCentres(0, 10, 20, 30), []impl.Item{}, [][]int{nil, nil, nil, nil}},
		{lineCentres(0, 10), line(10), [][]int{nil, vec(1)}},
		// Of equal centres the first one has the items.
		{lineCentres(9, 1, 9, 1), line(0, 20, 4, 8, 12), [][]int{vec(2, 4, 5), vec(1, 3), nil, nil}},
		// The items at 5 are as far from both.
		{lineCentres(0, 10), line(5, 6, 5, 11), [][]int{vec(1, 3), vec(2, 4)}},
		{lineCentres(10, 0), line(5, 4, 5, 11), [][]int{vec(1, 3, 4), vec(2)}},
		{lineCentres(0, 8, 40, 100), evenLine(6), [][]int{vec(1), vec(2, 3, 4, 5), vec(6, 7, 8, 9, 10, 11, 12), vec(13, 14, 15, 16)}},
	} {
		if got := impl.ListsOf(c.centres, c.list); !sameVectors(got, c.want) {
			t.Errorf("ListsOf(%v, %v) = %v, not %v", c.centres, c.list, got, c.want)
		}
	}
}

func TestListsOfAll(t *testing.T) {
	eachCluster(func(centres [][]int, list []impl.Item) {
		want := make([][]int, len(centres))
		for _, x := range list {
			i := wantCentre(centres, x.At)
			want[i] = append(want[i], x.Key)
		}
		if got := impl.ListsOf(centres, list); !sameVectors(got, want) {
			t.Errorf("ListsOf(%v, %v) = %v, not %v", centres, list, got, want)
		}
	})
}

func TestListsOfInvalid(t *testing.T) {
	badClusters(func(centres [][]int, list []impl.Item) {
		if got := impl.ListsOf(centres, list); len(got) != 0 {
			t.Errorf("ListsOf(%v, %v) = %v", centres, list, got)
		}
	})
}

func TestProbeOrderOrdinary(t *testing.T) {
	for _, c := range []struct {
		centres [][]int
		at      []int
		want    []int
	}{
		{[][]int{flat(0), vec(10, 10, 0, 0)}, vec(9, 9, 0, 0), vec(1, 0)},
		{[][]int{flat(0), vec(10, 10, 0, 0)}, vec(5, 5, 0, 0), vec(0, 1)},
		{lineCentres(30, 0, 20, 10), flat(0), vec(1, 3, 2, 0)},
		{lineCentres(30, 0, 20, 10), vec(16, 0, 0, 0), vec(2, 3, 0, 1)},
		{lineCentres(30, 0, 20, 10), vec(15, 0, 0, 0), vec(2, 3, 0, 1)},
		{lineCentres(10, 20, 0, 30), vec(15, 0, 0, 0), vec(0, 1, 2, 3)},
		{lineCentres(5, -5, 4, -4), flat(0), vec(2, 3, 0, 1)},
		{lineCentres(9, 1, 9, 1), flat(0), vec(1, 3, 0, 2)},
		{lineCentres(7, 7, 7, 7), flat(0), vec(0, 1, 2, 3)},
		{lineCentres(7, 7, 7, 7), vec(7, 0, 0, 0), vec(0, 1, 2, 3)},
		{[][]int{flat(100)}, flat(-100), vec(0)},
		// DistSum and DistMost would have other orders.
		{[][]int{vec(8, 0, 0, 0), vec(5, 5, 0, 0), vec(4, 4, 4, 4)}, flat(0), vec(1, 0, 2)},
	} {
		for many := 1; many <= impl.MaxCentres; many++ {
			want := c.want[:min(many, len(c.want))]
			if got := impl.ProbeOrder(c.centres, c.at, many); !slices.Equal(got, want) {
				t.Errorf("ProbeOrder(%v, %v, %d) = %v, not %v", c.centres, c.at, many, got, want)
			}
		}
	}
}

func TestProbeOrderAll(t *testing.T) {
	eachProbe(func(centres [][]int, list []impl.Item, at []int) {
		want := wantOrder(centres, at)
		for many := 1; many <= impl.MaxCentres; many++ {
			if got := impl.ProbeOrder(centres, at, many); !slices.Equal(got, want[:min(many, len(want))]) {
				t.Errorf("ProbeOrder(%v, %v, %d) = %v, not the first of %v", centres, at, many, got, want)
			}
		}
	})
}

func TestProbeOrderInvalid(t *testing.T) {
	check := func(centres [][]int, at []int, many int) {
		if got := impl.ProbeOrder(centres, at, many); len(got) != 0 {
			t.Errorf("ProbeOrder(%v, %v, %d) = %v", centres, at, many, got)
		}
	}
	for many := 1; many <= impl.MaxCentres; many++ {
		for _, centres := range badCentres() {
			check(centres, flat(0), many)
			check(centres, nil, many)
		}
		for _, centres := range sampleCentres() {
			for _, at := range badVectors() {
				check(centres, at, many)
			}
		}
	}
	for _, many := range badProbes() {
		for _, centres := range sampleCentres() {
			check(centres, flat(0), many)
		}
		check(nil, nil, many)
	}
}

// probeCase is a search with what it finds and what it costs, for as many centres as the places tell, from 1 on.
type probeCase struct {
	centres [][]int
	list    []impl.Item
	at      []int
	want    [][]impl.Hit
	costs   []int
}

// probeCases returns searches with few probes that miss items that are nearer, and with all of them.
func probeCases() []probeCase {
	return []probeCase{
		{[][]int{flat(0), vec(10, 10, 0, 0)}, line(0, 3, 100), vec(9, 9, 0, 0),
			[][]impl.Hit{{hit(3, 8362)}, {hit(2, 117), hit(1, 162), hit(3, 8362)}}, vec(3, 5)},
		// The item with the key 2 is nearer than all of the first list, but its centre is not.
		{lineCentres(0, 20), line(0, 11, 5), vec(9, 0, 0, 0),
			[][]impl.Hit{{hit(3, 16), hit(1, 81)}, {hit(2, 4), hit(3, 16), hit(1, 81)}}, vec(4, 5)},
		// The nearest centre has no items.
		{lineCentres(100, 0, 50), line(2, 1, 60), vec(99, 0, 0, 0),
			[][]impl.Hit{nil, {hit(3, 1521)}, {hit(3, 1521), hit(1, 9409), hit(2, 9604)}}, vec(3, 4, 6)},
		// Of equal centres the second one has no items, but it is probed.
		{lineCentres(1, 1, 8), line(0, 9, 2), vec(3, 0, 0, 0),
			[][]impl.Hit{{hit(3, 1), hit(1, 9)}, {hit(3, 1), hit(1, 9)}, {hit(3, 1), hit(1, 9), hit(2, 36)}}, vec(5, 5, 6)},
		// The keys decide between hits of several lists that are as near.
		{lineCentres(10, 0), line(2, 8, 2, 8), vec(5, 0, 0, 0),
			[][]impl.Hit{{hit(2, 9), hit(4, 9)}, {hit(1, 9), hit(2, 9), hit(3, 9), hit(4, 9)}}, vec(4, 6)},
		{lineCentres(4), line(1, 7), vec(5, 0, 0, 0),
			[][]impl.Hit{{hit(2, 4), hit(1, 16)}}, vec(3)},
		{lineCentres(4, 5, 6), nil, vec(5, 0, 0, 0), [][]impl.Hit{nil, nil, nil}, vec(3, 3, 3)},
		{lineCentres(4, 5), []impl.Item{}, vec(5, 0, 0, 0), [][]impl.Hit{nil, nil}, vec(2, 2)},
		{lineCentres(4, 50), line(6), vec(5, 0, 0, 0), [][]impl.Hit{{hit(1, 1)}, {hit(1, 1)}}, vec(3, 3)},
		{lineCentres(4, 50), line(6), vec(49, 0, 0, 0), [][]impl.Hit{nil, {hit(1, 1849)}}, vec(2, 3)},
	}
}

func TestProbeNearestOrdinary(t *testing.T) {
	for _, c := range probeCases() {
		for many := 1; many <= impl.MaxCentres; many++ {
			all := c.want[min(many, len(c.want))-1]
			for k := 1; k <= impl.MaxItems; k++ {
				if got := impl.ProbeNearest(c.centres, c.list, c.at, many, k); !slices.Equal(got, all[:min(k, len(all))]) {
					t.Errorf("ProbeNearest(%v, %v, %v, %d, %d) = %v, not the first of %v", c.centres, c.list, c.at, many, k, got, all)
				}
			}
		}
	}
}

func TestProbeNearestFull(t *testing.T) {
	// Each list of the four has four items, of which the keys are not next to each other.
	list := fullStore()
	for i := range list {
		list[i].At = vec(25*(i%4), i/4, 0, 0)
	}
	centres := lineCentres(0, 25, 50, 75)
	at := vec(60, 0, 0, 0)
	near := []impl.Hit{hit(18, 100), hit(42, 101), hit(66, 104), hit(90, 109)}
	for k := 1; k <= impl.MaxItems; k++ {
		if got := impl.ProbeNearest(centres, list, at, 1, k); !slices.Equal(got, near[:min(k, 4)]) {
			t.Errorf("ProbeNearest of 16 items, k %d, = %v", k, got)
		}
	}
	both := append(near, hit(24, 225), hit(48, 226), hit(72, 229), hit(96, 234))
	if got := impl.ProbeNearest(centres, list, at, 2, 16); !slices.Equal(got, both) {
		t.Errorf("ProbeNearest of 16 items with two probes = %v", got)
	}
	for many, want := range vec(8, 12, 16, 20) {
		if got := impl.ProbeCost(centres, list, at, many+1); got != want {
			t.Errorf("ProbeCost of 16 items with %d probes = %d, not %d", many+1, got, want)
		}
	}
}

func TestProbeNearestAll(t *testing.T) {
	missed := 0
	eachProbe(func(centres [][]int, list []impl.Item, at []int) {
		for many := 1; many <= impl.MaxCentres; many++ {
			want := wantHits(wantProbed(centres, list, at, many), impl.DistSquare, at)
			if len(want) < len(list) {
				missed++
			}
			for _, k := range vec(1, 2, 5, impl.MaxItems) {
				if got := impl.ProbeNearest(centres, list, at, many, k); !slices.Equal(got, want[:min(k, len(want))]) {
					t.Errorf("ProbeNearest(%v, %v, %v, %d, %d) = %v, not the first of %v", centres, list, at, many, k, got, want)
				}
			}
			if got := impl.ProbeCost(centres, list, at, many); got != len(centres)+len(want) {
				t.Errorf("ProbeCost(%v, %v, %v, %d) = %d, not %d", centres, list, at, many, got, len(centres)+len(want))
			}
		}
	})
	if missed < 500 {
		t.Errorf("only %d searches do not look at all items", missed)
	}
}

// badProbeSearches calls a function for searches with one or more invalid arguments.
func badProbeSearches(f func(centres [][]int, list []impl.Item, at []int, many int)) {
	for many := 1; many <= impl.MaxCentres; many++ {
		badClusters(func(centres [][]int, list []impl.Item) {
			f(centres, list, flat(1), many)
		})
		for _, list := range sampleStores() {
			for _, centres := range sampleCentres() {
				for _, at := range badVectors() {
					f(centres, list, at, many)
				}
			}
		}
	}
	for _, many := range badProbes() {
		for _, list := range sampleStores() {
			for _, centres := range sampleCentres() {
				f(centres, list, flat(1), many)
			}
		}
		f(nil, badStores()[0], nil, many)
	}
}

func TestProbeNearestInvalid(t *testing.T) {
	check := func(centres [][]int, list []impl.Item, at []int, many int, k int) {
		if got := impl.ProbeNearest(centres, list, at, many, k); len(got) != 0 {
			t.Errorf("ProbeNearest(%v, %v, %v, %d, %d) = %v", centres, list, at, many, k, got)
		}
	}
	badProbeSearches(func(centres [][]int, list []impl.Item, at []int, many int) {
		check(centres, list, at, many, 1)
		check(centres, list, at, many, impl.MaxItems)
	})
	for _, k := range badCounts() {
		for _, list := range sampleStores() {
			for _, centres := range sampleCentres() {
				for many := range impl.MaxCentres + 2 {
					check(centres, list, flat(1), many, k)
				}
			}
		}
	}
}

func TestProbeCostOrdinary(t *testing.T) {
	for _, c := range probeCases() {
		for many := 1; many <= impl.MaxCentres; many++ {
			want := c.costs[min(many, len(c.costs))-1]
			if got := impl.ProbeCost(c.centres, c.list, c.at, many); got != want {
				t.Errorf("ProbeCost(%v, %v, %v, %d) = %d, not %d", c.centres, c.list, c.at, many, got, want)
			}
		}
	}
}

func TestProbeCostInvalid(t *testing.T) {
	badProbeSearches(func(centres [][]int, list []impl.Item, at []int, many int) {
		if got := impl.ProbeCost(centres, list, at, many); got != -1 {
			t.Errorf("ProbeCost(%v, %v, %v, %d) = %d", centres, list, at, many, got)
		}
	})
}

func TestInvertedArgumentsAreNotChanged(t *testing.T) {
	eachCluster(func(centres [][]int, list []impl.Item) {
		centres, list = roomyVectors(centres), roomyItems(list)
		at := roomy(flat(-3))
		wantCentres, wantList, wantAt := wholeMemory(centres), cloneItems(list), slices.Clone(at[:cap(at)])
		impl.ListsOf(centres, list)
		for many := 1; many <= impl.MaxCentres; many++ {
			impl.ProbeOrder(centres, at, many)
			impl.ProbeNearest(centres, list, at, many, 3)
			impl.ProbeNearest(centres, list, at, many, impl.MaxItems)
			impl.ProbeCost(centres, list, at, many)
		}
		if !sameVectors(wholeMemory(centres), wantCentres) || !sameMemory(list, wantList) || !slices.Equal(at[:cap(at)], wantAt) {
			t.Errorf("arguments are changed: %v, %v, %v", wholeMemory(centres), list[:cap(list)], at[:cap(at)])
		}
	})
}

func TestInvertedResultsAreFresh(t *testing.T) {
	eachCluster(func(centres [][]int, list []impl.Item) {
		centres, list = roomyVectors(centres), roomyItems(list)
		at := roomy(flat(-3))
		checkFreshVectors(t, "ListsOf", impl.ListsOf(centres, list), impl.ListsOf(centres, list), centres, list)
		for many := 1; many <= impl.MaxCentres; many++ {
			order := impl.ProbeOrder(centres, at, many)
			for _, v := range slices.Concat(centres[:cap(centres)], [][]int{at, impl.ProbeOrder(centres, at, many)}) {
				if overlap(order, v) {
					t.Errorf("ProbeOrder(%v, %v, %d) shares %v", centres, at, many, v)
				}
			}
			hits := impl.ProbeNearest(centres, list, at, many, 5)
			if overlap(hits, impl.ProbeNearest(centres, list, at, many, 5)) || overlap(hits, impl.Nearest(list, impl.DistSquare, at, 5)) {
				t.Errorf("two searches with %d probes in %v share their hits", many, list)
			}
		}
	})
}

func TestInvertedResultsKeepNothing(t *testing.T) {
	centres, list := lineCentres(0, 8, 40, 100), evenLine(6)
	for range 2 {
		lists := impl.ListsOf(centres, list)
		if !sameVectors(lists, [][]int{vec(1), vec(2, 3, 4, 5), vec(6, 7, 8, 9, 10, 11, 12), vec(13, 14, 15, 16)}) {
			t.Errorf("ListsOf(%v, %v) = %v", centres, list, lists)
		}
		order := impl.ProbeOrder(centres, flat(0), impl.MaxCentres)
		if !slices.Equal(order, vec(0, 1, 2, 3)) {
			t.Errorf("ProbeOrder(%v) = %v", centres, order)
		}
		// What is done to a result does not come back in the next one.
		clear(order)
		for _, keys := range lists {
			clear(keys)
		}
	}
}
