package tests

import (
	"slices"
	"testing"

	"loop.example/vectorstore/impl"
)

func TestClusterConstants(t *testing.T) {
	if impl.MaxCentres != 4 || impl.MaxRounds != 8 {
		t.Errorf("MaxCentres = %d, MaxRounds = %d", impl.MaxCentres, impl.MaxRounds)
	}
}

func TestValidCentresOrdinary(t *testing.T) {
	for _, centres := range sampleCentres() {
		if !impl.ValidCentres(centres) {
			t.Errorf("ValidCentres(%v) = false", centres)
		}
	}
	for many := 1; many <= 4; many++ {
		for _, v := range sampleVectors() {
			if centres := slices.Repeat([][]int{v}, many); !impl.ValidCentres(centres) {
				t.Errorf("ValidCentres(%v) = false", centres)
			}
		}
	}
}

func TestValidCentresInvalid(t *testing.T) {
	for _, centres := range badCentres() {
		if impl.ValidCentres(centres) {
			t.Errorf("ValidCentres(%v) = true", centres)
		}
	}
	if impl.ValidCentres([][]int{nil}) || impl.ValidCentres([][]int{flat(0), vec(0, 0, 0)}) || impl.ValidCentres([][]int{flat(0), flat(1), flat(2), vec(0, 0, 0, 101)}) {
		t.Error("ValidCentres of centres that are no vectors")
	}
}

func TestCentreOfOrdinary(t *testing.T) {
	two := [][]int{flat(0), vec(10, 10, 0, 0)}
	four := [][]int{flat(100), flat(-100), vec(100, -100, 100, -100), vec(-100, 100, -100, 100)}
	for _, c := range []struct {
		centres [][]int
		at      []int
		want    int
	}{
		{two, vec(4, 4, 0, 0), 0},
		{two, vec(5, 5, 0, 0), 0},
		{two, vec(6, 4, 0, 0), 0},
		{two, vec(6, 6, 0, 0), 1},
		{two, vec(6, 5, 0, 0), 1},
		{four, flat(1), 0},
		{four, flat(-1), 1},
		{four, vec(2, -1, 3, -5), 2},
		{four, vec(-2, 1, -3, 5), 3},
		{four, flat(0), 0},
		// The nearest one for DistSquare is the last one, for DistSum and DistCount the first one, for DistMost any.
		{[][]int{vec(9, 0, 0, 0), vec(5, 5, 0, 0), vec(5, 4, 4, 0)}, flat(0), 1},
		{[][]int{vec(8, 0, 0, 0), vec(5, 5, 0, 0)}, flat(0), 1},
		{[][]int{vec(5, 5, 5, 0), vec(8, 0, 0, 0)}, flat(0), 1},
		{[][]int{vec(6, 0, 0, 0), vec(5, 5, 5, 5)}, flat(0), 0},
	} {
		if got := impl.CentreOf(c.centres, c.at); got != c.want {
			t.Errorf("CentreOf(%v, %v) = %d, not %d", c.centres, c.at, got, c.want)
		}
	}
}

func TestCentreOfSeveral(t *testing.T) {
	for many := 1; many <= impl.MaxCentres; many++ {
		for _, v := range sampleVectors() {
			// All centres are equal.
			if got := impl.CentreOf(slices.Repeat([][]int{v}, many), flat(3)); got != 0 {
				t.Errorf("CentreOf %d times %v is %d", many, v, got)
			}
			// One centre is at the vector, and all others, which are equal, are not.
			for i := range many {
				centres := slices.Repeat([][]int{vec(100, -99, 98, 97)}, many)
				centres[i] = v
				if got := impl.CentreOf(centres, v); got != i {
					t.Errorf("CentreOf(%v, %v) = %d", centres, v, got)
				}
			}
		}
	}
	cross := lineCentres(5, -5)
	cross = append(cross, vec(0, 5, 0, 0), vec(0, 0, 0, -5))
	for range cross {
		if got := impl.CentreOf(cross, flat(0)); got != 0 {
			t.Errorf("CentreOf(%v) of the middle = %d", cross, got)
		}
		cross = append(cross[1:], cross[0])
	}
	if got := impl.CentreOf(lineCentres(9, 4, -4, 4), flat(0)); got != 1 {
		t.Errorf("CentreOf several nearest ones behind a farther one = %d", got)
	}
}

func TestCentreOfFarAway(t *testing.T) {
	if got := impl.CentreOf([][]int{flat(100)}, flat(-100)); got != 0 {
		t.Errorf("CentreOf the only one = %d", got)
	}
	if got := impl.CentreOf([][]int{flat(100), flat(100), vec(100, 100, 100, 99)}, flat(-100)); got != 2 {
		t.Errorf("CentreOf the farthest vector = %d", got)
	}
}

func TestCentreOfAll(t *testing.T) {
	for _, centres := range sampleCentres() {
		for _, at := range append(sampleVectors(), centres...) {
			if got, want := impl.CentreOf(centres, at), wantCentre(centres, at); got != want {
				t.Errorf("CentreOf(%v, %v) = %d, not %d", centres, at, got, want)
			}
		}
	}
}

func TestCentreOfInvalid(t *testing.T) {
	check := func(centres [][]int, at []int) {
		if got := impl.CentreOf(centres, at); got != -1 {
			t.Errorf("CentreOf(%v, %v) = %d", centres, at, got)
		}
	}
	for _, centres := range badCentres() {
		check(centres, flat(0))
		check(centres, flat(2))
		check(centres, nil)
	}
	for _, at := range badVectors() {
		for _, centres := range sampleCentres() {
			check(centres, at)
		}
		check([][]int{at}, at)
	}
}

func TestAssignItemsOrdinary(t *testing.T) {
	list := []impl.Item{item(1, flat(0), 1), item(2, vec(3, 0, 0, 0), 3), item(3, vec(0, 4, 0, 0), 4), item(4, vec(10, 10, 0, 0), 0)}
	for _, c := range []struct {
		centres [][]int
		list    []impl.Item
		want    []int
	}{
		{[][]int{flat(0), vec(10, 10, 0, 0)}, list, vec(0, 0, 0, 1)},
		{[][]int{vec(10, 10, 0, 0), flat(0)}, list, vec(1, 1, 1, 0)},
		{[][]int{flat(0), flat(0), vec(3, 1, 0, 0), vec(3, 1, 0, 0)}, list, vec(0, 2, 0, 2)},
		{[][]int{flat(90)}, list, vec(0, 0, 0, 0)},
		{lineCentres(0, 10), line(4, 5, 6, 100, -100), vec(0, 0, 1, 1, 0)},
		{lineCentres(10, 0), line(4, 5, 6, 100, -100), vec(1, 0, 0, 0, 1)},
		{lineCentres(10, 0), line(5), vec(0)},
		{lineCentres(10, 0), nil, nil},
		{lineCentres(10, 0), []impl.Item{}, nil},
		{lineCentres(0, 8, 40, 100), evenLine(6), vec(0, 1, 1, 1, 1, 2, 2, 2, 2, 2, 2, 2, 3, 3, 3, 3)},
	} {
		if got := impl.AssignItems(c.centres, c.list); !slices.Equal(got, c.want) {
			t.Errorf("AssignItems(%v, %v) = %v, not %v", c.centres, c.list, got, c.want)
		}
	}
}

func TestAssignItemsInvalid(t *testing.T) {
	badClusters(func(centres [][]int, list []impl.Item) {
		if got := impl.AssignItems(centres, list); len(got) != 0 {
			t.Errorf("AssignItems(%v, %v) = %v", centres, list, got)
		}
	})
}

func TestMoveCentresOrdinary(t *testing.T) {
	low := []impl.Item{item(1, vec(-1, 0, 5, -100), 1), item(2, vec(-2, 1, 5, -100), 3), item(3, vec(-2, 1, 6, -99), 4)}
	for _, c := range []struct {
		centres [][]int
		list    []impl.Item
		want    [][]int
	}{
		{lineCentres(0, 10), line(2, 3, 8), lineCentres(2, 8)},
		// Means are rounded down, also below zero.
		{[][]int{flat(0)}, low, [][]int{vec(-2, 0, 5, -100)}},
		{[][]int{flat(0)}, low[:2], [][]int{vec(-2, 0, 5, -100)}},
		{[][]int{flat(0)}, low[1:], [][]int{vec(-2, 1, 5, -100)}},
		// A centre without items stays where it is, at each place.
		{[][]int{vec(90, 1, 2, 3), flat(0)}, line(2, 3, 8), [][]int{vec(90, 1, 2, 3), vec(4, 0, 0, 0)}},
		{[][]int{flat(0), vec(90, 1, 2, 3)}, line(2, 3, 8), [][]int{vec(4, 0, 0, 0), vec(90, 1, 2, 3)}},
		{[][]int{flat(-100), flat(100)}, nil, [][]int{flat(-100), flat(100)}},
		{[][]int{flat(-100), flat(100)}, []impl.Item{}, [][]int{flat(-100), flat(100)}},
		// Of equal centres the first one has the items.
		{lineCentres(1, 1), line(4, 6), lineCentres(5, 1)},
		{lineCentres(9, 1, 9, 1), line(0, 2, 4, 8, 12), lineCentres(10, 2, 9, 1)},
		{lineCentres(1, 1, 1, 1), line(7), lineCentres(7, 1, 1, 1)},
		// The item at 5 is as far from both.
		{lineCentres(0, 10), line(5, 11), lineCentres(5, 11)},
		{lineCentres(10, 0), line(5, 11), lineCentres(8, 0)},
		// 16 items with one centre, and with four.
		{lineCentres(0), evenLine(6), lineCentres(45)},
		{lineCentres(0, 8, 40, 100), evenLine(6), lineCentres(0, 15, 48, 81)},
		{[][]int{flat(3)}, corners(10), [][]int{flat(0)}},
	} {
		if got := impl.MoveCentres(c.centres, c.list); !sameVectors(got, c.want) {
			t.Errorf("MoveCentres(%v, %v) = %v, not %v", c.centres, c.list, got, c.want)
		}
	}
}

func TestMoveCentresAll(t *testing.T) {
	eachSettling(func(centres [][]int, list []impl.Item) {
		if got, want := impl.MoveCentres(centres, list), wantMoved(centres, list); !sameVectors(got, want) {
			t.Errorf("MoveCentres(%v, %v) = %v, not %v", centres, list, got, want)
		}
	})
}

func TestMoveCentresInvalid(t *testing.T) {
	badClusters(func(centres [][]int, list []impl.Item) {
		if got := impl.MoveCentres(centres, list); len(got) != 0 {
			t.Errorf("MoveCentres(%v, %v) = %v", centres, list, got)
		}
	})
}

func TestSettleCentresOrdinary(t *testing.T) {
	for _, c := range settlingCases() {
		if got, changes := impl.SettleCentres(c.centres, c.list); !sameVectors(got, c.want) || changes != c.changes {
			t.Errorf("SettleCentres(%v, %v) = %v, %d, not %v, %d", c.centres, c.list, got, changes, c.want, c.changes)
		}
	}
}

func TestSettleCentresAll(t *testing.T) {
	eachSettling(func(centres [][]int, list []impl.Item) {
		want, wantChanges := wantSettled(centres, list)
		if got, changes := impl.SettleCentres(centres, list); !sameVectors(got, want) || changes != wantChanges {
			t.Errorf("SettleCentres(%v, %v) = %v, %d, not %v, %d", centres, list, got, changes, want, wantChanges)
		}
	})
}

func TestSettleCentresInvalid(t *testing.T) {
	badClusters(func(centres [][]int, list []impl.Item) {
		if got, changes := impl.SettleCentres(centres, list); len(got) != 0 || changes != -1 {
			t.Errorf("SettleCentres(%v, %v) = %v, %d", centres, list, got, changes)
		}
	})
}

func TestSpreadOfOrdinary(t *testing.T) {
	for _, c := range []struct {
		centres [][]int
		list    []impl.Item
		want    int
	}{
		{lineCentres(0, 10), line(2, 3, 8), 4 + 9 + 4},
		{lineCentres(10, 0), line(2, 3, 8), 4 + 9 + 4},
		{lineCentres(0, 10), line(5, 15, -5), 25 + 25 + 25},
		{lineCentres(1, 1, 1, 1), line(7, -1), 36 + 4},
		{lineCentres(90), nil, 0},
		{lineCentres(90), []impl.Item{}, 0},
		{[][]int{vec(1, 2, 3, 4)}, []impl.Item{item(9, flat(0), 0)}, 1 + 4 + 9 + 16},
		{[][]int{flat(0)}, corners(10), 16 * 400},
		{[][]int{flat(9), flat(-9)}, corners(10), 2*(4) + 8*(3+361) + 6*(2+2*361)},
		{[][]int{flat(100)}, []impl.Item{item(9, flat(-100), 0)}, 160000},
		// As large as a spread can be, which is beyond FarAway.
		{[][]int{flat(100), flat(100)}, corners(100)[:1], 160000},
		{[][]int{flat(100)}, farthest(), 16 * 160000},
	} {
		if got := impl.SpreadOf(c.centres, c.list); got != c.want {
			t.Errorf("SpreadOf(%v, %v) = %d, not %d", c.centres, c.list, got, c.want)
		}
	}
}

// farthest returns a store with 16 items that are all in one corner.
func farthest() []impl.Item {
	list := fullStore()
	for i := range list {
		list[i].At = flat(-100)
	}
	return list
}

func TestSpreadOfInvalid(t *testing.T) {
	badClusters(func(centres [][]int, list []impl.Item) {
		if got := impl.SpreadOf(centres, list); got != -1 {
			t.Errorf("SpreadOf(%v, %v) = %d", centres, list, got)
		}
	})
}

func TestClusterArgumentsAreNotChanged(t *testing.T) {
	eachSettling(func(centres [][]int, list []impl.Item) {
		centres, list = roomyVectors(centres), roomyItems(list)
		at := roomy(flat(-3))
		wantCentres, wantList, wantAt := wholeMemory(centres), cloneItems(list), slices.Clone(at[:cap(at)])
		impl.ValidCentres(centres)
		impl.CentreOf(centres, at)
		impl.AssignItems(centres, list)
		impl.MoveCentres(centres, list)
		impl.SettleCentres(centres, list)
		impl.SpreadOf(centres, list)
		if !sameVectors(wholeMemory(centres), wantCentres) || !sameMemory(list, wantList) || !slices.Equal(at[:cap(at)], wantAt) {
			t.Errorf("arguments are changed: %v, %v, %v", wholeMemory(centres), list[:cap(list)], at[:cap(at)])
		}
	})
}

// checkFreshVectors checks that the lists of a result share no memory with each other, with that of a second call, or with arguments.
func checkFreshVectors(t *testing.T, name string, once [][]int, twice [][]int, centres [][]int, list []impl.Item) {
	t.Helper()
	given := slices.Concat(centres[:cap(centres)], vectorsOf(list[:cap(list)]))
	if overlap(once, centres) || overlap(once, twice) || overlapAny(slices.Concat(once[:cap(once)], twice[:cap(twice)])) {
		t.Errorf("the lists of %s(%v, %v) share memory", name, centres, list)
	}
	for _, v := range once[:cap(once)] {
		for _, w := range given {
			if overlap(v, w) {
				t.Errorf("%s(%v, %v) shares %v", name, centres, list, w)
			}
		}
	}
}

func TestClusterResultsAreFresh(t *testing.T) {
	eachSettling(func(centres [][]int, list []impl.Item) {
		centres, list = roomyVectors(centres), roomyItems(list)
		numbers := impl.AssignItems(centres, list)
		for _, v := range slices.Concat(centres, vectorsOf(list[:cap(list)]), [][]int{impl.AssignItems(centres, list)}) {
			if overlap(numbers, v) {
				t.Errorf("AssignItems(%v, %v) shares %v", centres, list, v)
			}
		}
		checkFreshVectors(t, "MoveCentres", impl.MoveCentres(centres, list), impl.MoveCentres(centres, list), centres, list)
		once, _ := impl.SettleCentres(centres, list)
		twice, _ := impl.SettleCentres(centres, list)
		checkFreshVectors(t, "SettleCentres", once, twice, centres, list)
	})
}

func TestClusterEqualCentresAreFresh(t *testing.T) {
	// The centres are one slice, which the results may not be.
	shared := flat(2)
	centres := [][]int{shared, shared, shared, shared}
	for _, list := range [][]impl.Item{nil, line(2), evenLine(6)} {
		once, _ := impl.SettleCentres(centres, list)
		if overlapAny(append(once, shared)) || overlapAny(append(impl.MoveCentres(centres, list), shared)) {
			t.Errorf("equal centres share their memory for %v", list)
		}
	}
}
