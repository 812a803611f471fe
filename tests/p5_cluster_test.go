package tests

import (
	"slices"
	"testing"

	"loop.example/vectorstore/impl"
)

func TestP35CentresCanBeLeftOut(t *testing.T) {
	checked := 0
	for _, list := range searchStores() {
		for _, centres := range clusterCentres(list) {
			for many := len(centres); many >= 1; many-- {
				checked++
				if !impl.ValidCentres(centres[:many]) {
					t.Errorf("ValidCentres(%v) = false", centres[:many])
				}
			}
			if impl.ValidCentres(centres[:0]) {
				t.Error("no centres are valid")
			}
		}
	}
	if checked < 500 {
		t.Errorf("only %d lists of centres are checked", checked)
	}
}

func TestP36NearestCentreIsNearest(t *testing.T) {
	eachProbe(func(centres [][]int, list []impl.Item, at []int) {
		number := nearestToCentres(t, centres, at)
		least := impl.Distance(impl.DistSquare, centres[number], at)
		for i, c := range centres {
			dist := impl.Distance(impl.DistSquare, c, at)
			if dist < least || dist == least && i < number {
				t.Errorf("CentreOf(%v, %v) = %d, but %d is nearer or as near", centres, at, number, i)
			}
		}
	})
}

func TestP37CentresAreNearestToThemselves(t *testing.T) {
	eachCluster(func(centres [][]int, list []impl.Item) {
		for _, c := range centres {
			number := nearestToCentres(t, centres, c)
			if !slices.Equal(centres[number], c) {
				t.Errorf("CentreOf(%v, %v) = %d", centres, c, number)
			}
		}
	})
}

// assigned returns AssignItems, which has to have a number for each item.
func assigned(t *testing.T, centres [][]int, list []impl.Item) []int {
	t.Helper()
	out := impl.AssignItems(centres, list)
	if len(out) != len(list) {
		t.Fatalf("AssignItems(%v, %v) = %v", centres, list, out)
	}
	return out
}

func TestP38ItemsHaveCentres(t *testing.T) {
	eachCluster(func(centres [][]int, list []impl.Item) {
		for i, number := range assigned(t, centres, list) {
			if want := nearestToCentres(t, centres, list[i].At); number != want {
				t.Errorf("AssignItems(%v, %v) has %d for item %d, not %d", centres, list, number, i, want)
			}
		}
	})
}

func TestP39OneCentreHasAll(t *testing.T) {
	eachCluster(func(centres [][]int, list []impl.Item) {
		for i, c := range centres {
			if got := assigned(t, centres[i:i+1], list); slices.ContainsFunc(got, func(n int) bool { return n != 0 }) {
				t.Errorf("AssignItems of %v with the centre %v = %v", list, c, got)
			}
		}
	})
}

func TestP40CentresMoveIntoTheMiddle(t *testing.T) {
	eachCluster(func(centres [][]int, list []impl.Item) {
		for i, c := range centres {
			want := c
			if len(list) > 0 {
				want = impl.MeanOf(vectorsOf(list))
			}
			if got := impl.MoveCentres(centres[i:i+1], list); len(got) != 1 || !slices.Equal(got[0], want) {
				t.Errorf("MoveCentres of %v with the centre %v = %v, not %v", list, c, got, want)
			}
		}
	})
}

func TestP41CentresWithoutItemsStay(t *testing.T) {
	stay := 0
	eachSettling(func(centres [][]int, list []impl.Item) {
		got := impl.MoveCentres(centres, list)
		if len(got) != len(centres) {
			t.Fatalf("MoveCentres(%v, %v) = %v", centres, list, got)
		}
		for i, c := range centres {
			if slices.ContainsFunc(list, func(x impl.Item) bool { return impl.CentreOf(centres, x.At) == i }) {
				continue
			}
			stay++
			if !slices.Equal(got[i], c) {
				t.Errorf("MoveCentres(%v, %v) moves %d, which has no items, to %v", centres, list, i, got[i])
			}
		}
	})
	if stay < 500 {
		t.Errorf("only %d centres have no items", stay)
	}
}

// settled returns SettleCentres, which has to have as many centres and a possible number of changes.
func settled(t *testing.T, centres [][]int, list []impl.Item) ([][]int, int) {
	t.Helper()
	out, changes := impl.SettleCentres(centres, list)
	if len(out) != len(centres) || !impl.ValidCentres(out) || changes < 0 || changes > impl.MaxRounds {
		t.Fatalf("SettleCentres(%v, %v) = %v, %d", centres, list, out, changes)
	}
	return out, changes
}

func TestP42SettledCentresStay(t *testing.T) {
	seen := map[int]int{}
	eachSettling(func(centres [][]int, list []impl.Item) {
		out, changes := settled(t, centres, list)
		seen[changes]++
		if got := impl.MoveCentres(out, list); changes < impl.MaxRounds && !sameVectors(got, out) {
			t.Errorf("SettleCentres(%v, %v) = %v, %d, but MoveCentres leads on to %v", centres, list, out, changes, got)
		}
	})
	for changes := range impl.MaxRounds + 1 {
		if seen[changes] == 0 {
			t.Errorf("no centres settle after %d changes: %v", changes, seen)
		}
	}
}

func TestP43SettlingGoesRoundByRound(t *testing.T) {
	eachSettling(func(centres [][]int, list []impl.Item) {
		want, changes := settled(t, centres, list)
		if changes == impl.MaxRounds {
			return
		}
		for round := changes; round >= 0; round-- {
			got, left := settled(t, centres, list)
			if !sameVectors(got, want) || left != round {
				t.Errorf("SettleCentres(%v, %v) = %v, %d, not %v, %d", centres, list, got, left, want, round)
			}
			centres = impl.MoveCentres(centres, list)
		}
		if !sameVectors(centres, want) {
			t.Errorf("MoveCentres does not lead to %v, but to %v", want, centres)
		}
	})
}

func TestP43CutOffIsMoving(t *testing.T) {
	cut := 0
	for _, c := range settlingCases() {
		got, changes := settled(t, c.centres, c.list)
		if changes < impl.MaxRounds {
			continue
		}
		cut++
		want := c.centres
		for range impl.MaxRounds {
			want = impl.MoveCentres(want, c.list)
		}
		if !sameVectors(got, want) {
			t.Errorf("SettleCentres(%v, %v) = %v, not %v", c.centres, c.list, got, want)
		}
	}
	if cut < 2 {
		t.Errorf("only %d cases take all rounds", cut)
	}
}

func TestP44SpreadsAddUp(t *testing.T) {
	eachSettling(func(centres [][]int, list []impl.Item) {
		want := 0
		for _, x := range list {
			want += impl.Distance(impl.DistSquare, x.At, centres[nearestToCentres(t, centres, x.At)])
		}
		if got := impl.SpreadOf(centres, list); got != want {
			t.Errorf("SpreadOf(%v, %v) = %d, not %d", centres, list, got, want)
		}
	})
}

func TestP45MoreCentresAreNearer(t *testing.T) {
	less := 0
	eachSettling(func(centres [][]int, list []impl.Item) {
		all, first := impl.SpreadOf(centres, list), impl.SpreadOf(centres[:1], list)
		if all < 0 || all > first {
			t.Errorf("SpreadOf(%v, %v) = %d, but with the first one %d", centres, list, all, first)
		}
		if all < first {
			less++
		}
	})
	if less < 100 {
		t.Errorf("only %d spreads get less", less)
	}
}

func TestP148NewCentresCanBeNearest(t *testing.T) {
	eachProbe(func(centres [][]int, list []impl.Item, at []int) {
		if len(centres) == impl.MaxCentres {
			centres = centres[:impl.MaxCentres-1]
		}
		for i := range len(centres) + 1 {
			more := slices.Insert(slices.Clone(centres), i, at)
			number := nearestToCentres(t, more, at)
			if number > i || impl.Distance(impl.DistSquare, more[number], at) != 0 {
				t.Errorf("CentreOf(%v, %v) = %d", more, at, number)
			}
		}
	})
}

func TestP149ItemsAsCentresHaveNoSpread(t *testing.T) {
	checked := 0
	for _, list := range searchStores() {
		for from := 0; from+1 <= len(list); from++ {
			for many := 1; many <= impl.MaxCentres && from+many <= len(list); many++ {
				part := list[from : from+many]
				checked++
				if got := impl.SpreadOf(vectorsOf(part), part); got != 0 {
					t.Errorf("SpreadOf %v with all items as centres is %d", part, got)
				}
			}
		}
	}
	if checked < 500 {
		t.Errorf("only %d stores are checked", checked)
	}
}
