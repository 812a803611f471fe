package tests

import (
	"slices"
	"testing"

	"loop.example/vectorstore/impl"
)

func TestP46ListsHaveAllItems(t *testing.T) {
	eachCluster(func(centres [][]int, list []impl.Item) {
		seen := map[int]int{}
		for i, keys := range listsOf(t, centres, list) {
			for _, key := range keys {
				seen[key]++
				x, there := itemsOf(list)[key]
				if !there || nearestToCentres(t, centres, x.At) != i {
					t.Errorf("ListsOf(%v, %v) has %d in list %d", centres, list, key, i)
				}
			}
		}
		for _, x := range list {
			if seen[x.Key] != 1 {
				t.Errorf("ListsOf(%v, %v) has %d %d times", centres, list, x.Key, seen[x.Key])
			}
		}
	})
}

func TestP47ListsAscend(t *testing.T) {
	several := 0
	eachCluster(func(centres [][]int, list []impl.Item) {
		for i, keys := range listsOf(t, centres, list) {
			for j := 1; j < len(keys); j++ {
				several++
				if keys[j-1] >= keys[j] {
					t.Errorf("list %d of ListsOf(%v, %v) is %v", i, centres, list, keys)
				}
			}
		}
	})
	if several < 500 {
		t.Errorf("only %d keys are behind others", several)
	}
}

func TestP48NearestCentreIsFirst(t *testing.T) {
	eachProbe(func(centres [][]int, list []impl.Item, at []int) {
		for many := 1; many <= impl.MaxCentres; many++ {
			order := orderOf(t, centres, at, many)
			if want := nearestToCentres(t, centres, at); order[0] != want {
				t.Errorf("ProbeOrder(%v, %v, %d) = %v, but CentreOf is %d", centres, at, many, order, want)
			}
			for i := 1; i < len(order); i++ {
				last, next := impl.Distance(impl.DistSquare, centres[order[i-1]], at), impl.Distance(impl.DistSquare, centres[order[i]], at)
				if next < last || next == last && order[i] < order[i-1] {
					t.Errorf("ProbeOrder(%v, %v, %d) = %v falls at %d", centres, at, many, order, i)
				}
			}
		}
	})
}

func TestP49MoreProbesBeginWithFewer(t *testing.T) {
	eachProbe(func(centres [][]int, list []impl.Item, at []int) {
		for many := 1; many < impl.MaxCentres; many++ {
			fewer, more := orderOf(t, centres, at, many), orderOf(t, centres, at, many+1)
			if !slices.Equal(fewer, more[:len(fewer)]) {
				t.Errorf("ProbeOrder(%v, %v, %d) = %v, and one more %v", centres, at, many, fewer, more)
			}
		}
	})
}

// probedKeys returns the keys of the lists of those centres that are probed.
func probedKeys(t *testing.T, centres [][]int, list []impl.Item, at []int, many int) []int {
	t.Helper()
	lists := listsOf(t, centres, list)
	var out []int
	for _, i := range orderOf(t, centres, at, many) {
		out = append(out, lists[i]...)
	}
	return out
}

// probed returns ProbeNearest, which has to have as many hits as wanted, or as many as there are in the probed lists.
func probed(t *testing.T, centres [][]int, list []impl.Item, at []int, many int, k int) []impl.Hit {
	t.Helper()
	out := impl.ProbeNearest(centres, list, at, many, k)
	if len(out) != min(k, len(probedKeys(t, centres, list, at, many))) {
		t.Fatalf("ProbeNearest(%v, %v, %v, %d, %d) = %v", centres, list, at, many, k, out)
	}
	return out
}

func TestP50ProbesFindSome(t *testing.T) {
	eachProbe(func(centres [][]int, list []impl.Item, at []int) {
		has := itemsOf(list)
		for many := 1; many <= impl.MaxCentres; many++ {
			keys := probedKeys(t, centres, list, at, many)
			for _, k := range vec(1, 3, impl.MaxItems) {
				seen := map[int]bool{}
				for _, h := range probed(t, centres, list, at, many, k) {
					x, there := has[h.Key]
					if !there || seen[h.Key] || !slices.Contains(keys, h.Key) || h.Dist != impl.Distance(impl.DistSquare, x.At, at) {
						t.Errorf("ProbeNearest(%v, %v, %v, %d, %d) has %v", centres, list, at, many, k, h)
					}
					seen[h.Key] = true
				}
			}
		}
	})
}

func TestP51AllProbesFindAll(t *testing.T) {
	eachProbe(func(centres [][]int, list []impl.Item, at []int) {
		for many := len(centres); many <= impl.MaxCentres; many++ {
			for _, k := range vec(1, 2, 6, impl.MaxItems) {
				want := nearestOf(t, list, impl.DistSquare, at, k)
				if got := impl.ProbeNearest(centres, list, at, many, k); !slices.Equal(got, want) {
					t.Errorf("ProbeNearest(%v, %v, %v, %d, %d) = %v, not %v", centres, list, at, many, k, got, want)
				}
			}
		}
	})
}

func TestP52MoreProbesFindNearerItems(t *testing.T) {
	nearer := 0
	eachProbe(func(centres [][]int, list []impl.Item, at []int) {
		for many := 1; many < impl.MaxCentres; many++ {
			for _, k := range vec(1, 4) {
				fewer, more := probed(t, centres, list, at, many, k), probed(t, centres, list, at, many+1, k)
				if len(fewer) == 0 {
					continue
				}
				if len(more) == 0 || more[0].Dist > fewer[0].Dist {
					t.Errorf("ProbeNearest(%v, %v, %v, %d, %d) = %v, but with one more %v", centres, list, at, many, k, fewer, more)
				} else if more[0].Dist < fewer[0].Dist {
					nearer++
				}
			}
		}
	})
	if nearer < 100 {
		t.Errorf("only %d searches find nearer items with one centre more", nearer)
	}
}

func TestP53SearchesCostDistances(t *testing.T) {
	eachProbe(func(centres [][]int, list []impl.Item, at []int) {
		for many := 1; many <= impl.MaxCentres; many++ {
			want := len(centres) + len(probedKeys(t, centres, list, at, many))
			if got := impl.ProbeCost(centres, list, at, many); got != want {
				t.Errorf("ProbeCost(%v, %v, %v, %d) = %d, not %d", centres, list, at, many, got, want)
			}
		}
	})
}

func TestP150ListsAndCentresAreTheSame(t *testing.T) {
	eachCluster(func(centres [][]int, list []impl.Item) {
		lists := listsOf(t, centres, list)
		for i, number := range assigned(t, centres, list) {
			for j, keys := range lists {
				if slices.Contains(keys, list[i].Key) != (j == number) {
					t.Errorf("ListsOf(%v, %v) = %v, but AssignItems has %d for %d", centres, list, lists, number, list[i].Key)
				}
			}
		}
	})
}

func TestP151MoreProbesCostMore(t *testing.T) {
	more := 0
	eachProbe(func(centres [][]int, list []impl.Item, at []int) {
		last := impl.ProbeCost(centres, list, at, 1)
		if last < len(centres) {
			t.Errorf("ProbeCost(%v, %v, %v, 1) = %d", centres, list, at, last)
		}
		for many := 2; many <= impl.MaxCentres; many++ {
			next := impl.ProbeCost(centres, list, at, many)
			if next < last {
				t.Errorf("ProbeCost(%v, %v, %v, %d) = %d, but one less %d", centres, list, at, many, next, last)
			}
			if next > last {
				more++
			}
			last = next
		}
		for many := len(centres); many <= impl.MaxCentres; many++ {
			if got := impl.ProbeCost(centres, list, at, many); got != len(centres)+len(list) {
				t.Errorf("ProbeCost(%v, %v, %v, %d) = %d", centres, list, at, many, got)
			}
		}
	})
	if more < 500 {
		t.Errorf("only %d searches cost more with one centre more", more)
	}
}
