package tests

import (
	"slices"
	"testing"

	"loop.example/vectorstore/impl"
)

func TestP17ItemsInBounds(t *testing.T) {
	for _, list := range searchStores() {
		if len(list) == 0 {
			continue
		}
		low, high, ok := impl.BoundsOf(list)
		if got := impl.InBox(list, low, high); !ok || !slices.Equal(got, keysOf(list)) {
			t.Errorf("InBox of BoundsOf(%v) = %v", list, got)
		}
		for i := range impl.Dims {
			has := func(c int) bool {
				return slices.ContainsFunc(list, func(x impl.Item) bool { return x.At[i] == c })
			}
			if !has(low[i]) || !has(high[i]) {
				t.Errorf("no item of %v has the bound %d or %d at %d", list, low[i], high[i], i)
			}
			tighter := slices.Clone(low)
			tighter[i]++
			if got := impl.InBox(list, tighter, high); impl.ValidVector(tighter) && len(got) >= len(list) {
				t.Errorf("InBox(%v, %v, %v) = %v", list, tighter, high, got)
			}
		}
	}
}

func TestP19NearestAreNear(t *testing.T) {
	eachSearch(allKinds(), func(list []impl.Item, kind int, at []int) {
		for k := 1; k <= impl.MaxItems; k++ {
			got := nearestOf(t, list, kind, at, k)
			for _, x := range list {
				dist := impl.Distance(kind, x.At, at)
				has := slices.ContainsFunc(got, func(h impl.Hit) bool { return h.Key == x.Key })
				if !has && dist < got[len(got)-1].Dist {
					t.Errorf("Nearest(%v, %d, %v, %d) leaves out %d", list, kind, at, k, x.Key)
				}
			}
		}
	})
}

func TestP20HitsHaveDistances(t *testing.T) {
	eachSearch(allKinds(), func(list []impl.Item, kind int, at []int) {
		has := itemsOf(list)
		for k := 1; k <= impl.MaxItems; k++ {
			seen := map[int]bool{}
			for _, h := range nearestOf(t, list, kind, at, k) {
				x, there := has[h.Key]
				if !there || seen[h.Key] || h.Dist != impl.Distance(kind, x.At, at) {
					t.Errorf("Nearest(%v, %d, %v, %d) has %v", list, kind, at, k, h)
				}
				seen[h.Key] = true
			}
		}
	})
}

func TestP21FewerAreFirst(t *testing.T) {
	eachSearch(allKinds(), func(list []impl.Item, kind int, at []int) {
		for k := 1; k < impl.MaxItems; k++ {
			fewer, more := nearestOf(t, list, kind, at, k), nearestOf(t, list, kind, at, k+1)
			if !slices.Equal(fewer, more[:len(fewer)]) {
				t.Errorf("Nearest(%v, %d, %v, %d) = %v, and one more %v", list, kind, at, k, fewer, more)
			}
		}
	})
}

func TestP22NearestToThemselves(t *testing.T) {
	for _, list := range searchStores() {
		for _, x := range list {
			for _, kind := range allKinds() {
				for k := 1; k <= impl.MaxItems; k++ {
					if got := nearestOf(t, list, kind, x.At, k); got[0].Dist != 0 {
						t.Errorf("Nearest(%v, %d, %v, %d) = %v", list, kind, x.At, k, got)
					}
				}
			}
		}
	}
}

// someDistances returns distances with what is just below and above those of all items.
func someDistances(list []impl.Item, kind int, at []int) []int {
	out := vec(0, 1, 500, impl.FarAway)
	for _, x := range list {
		dist := impl.Distance(kind, x.At, at)
		out = append(out, max(dist-1, 0), dist, dist+1)
	}
	slices.Sort(out)
	return slices.Compact(out)
}

func TestP23NearEnough(t *testing.T) {
	eachSearch(allKinds(), func(list []impl.Item, kind int, at []int) {
		for _, most := range someDistances(list, kind, at) {
			var want []int
			for _, x := range list {
				if impl.Distance(kind, x.At, at) <= most {
					want = append(want, x.Key)
				}
			}
			var got []int
			for _, h := range impl.WithinDist(list, kind, at, most) {
				got = append(got, h.Key)
			}
			slices.Sort(got)
			if !slices.Equal(got, want) {
				t.Errorf("WithinDist(%v, %d, %v, %d) has the keys %v, not %v", list, kind, at, most, got, want)
			}
		}
	})
}

func TestP24NearestComeFirst(t *testing.T) {
	eachSearch(allKinds(), func(list []impl.Item, kind int, at []int) {
		all := nearestOf(t, list, kind, at, impl.MaxItems)
		for _, most := range someDistances(list, kind, at) {
			got := impl.WithinDist(list, kind, at, most)
			many := 0
			for many < len(all) && all[many].Dist <= most {
				many++
			}
			if !slices.Equal(got, all[:many]) {
				t.Errorf("WithinDist(%v, %d, %v, %d) = %v, and Nearest %v", list, kind, at, most, got, all)
			}
		}
	})
}

// someBoxes returns pairs of vectors, also with low above high.
func someBoxes(list []impl.Item) [][2][]int {
	var out [][2][]int
	all := searchVectors(list)
	for _, low := range all {
		for _, high := range all {
			out = append(out, [2][]int{low, high})
		}
	}
	return out
}

func TestP25BoxesHaveAllInside(t *testing.T) {
	found := 0
	for _, list := range searchStores() {
		for _, box := range someBoxes(list) {
			var want []int
			for _, x := range list {
				inside := true
				for i, c := range x.At {
					inside = inside && box[0][i] <= c && c <= box[1][i]
				}
				if inside {
					want = append(want, x.Key)
				}
			}
			found += len(want)
			if got := impl.InBox(list, box[0], box[1]); !slices.Equal(got, want) {
				t.Errorf("InBox(%v, %v) = %v, not %v", list, box, got, want)
			}
		}
	}
	if found < 500 {
		t.Errorf("only %d items are in boxes", found)
	}
}

func TestP26BoxesAreBalls(t *testing.T) {
	found := 0
	for _, list := range searchStores() {
		for _, at := range searchVectors(list) {
			for size := 0; size <= 100; size += 5 {
				low, high := moved(at, flat(-size)), moved(at, flat(size))
				if !impl.ValidVector(low) || !impl.ValidVector(high) {
					continue
				}
				var ball []int
				for _, h := range impl.WithinDist(list, impl.DistMost, at, size) {
					ball = append(ball, h.Key)
				}
				slices.Sort(ball)
				found += len(ball)
				if got := impl.InBox(list, low, high); !slices.Equal(got, ball) {
					t.Errorf("InBox(%v) around %v by %d = %v, not %v", list, at, size, got, ball)
				}
			}
		}
	}
	if found < 500 {
		t.Errorf("only %d items are in boxes", found)
	}
}

// eachClosest calls a function for all sample stores with a closest pair, with its items and their distance.
func eachClosest(t *testing.T, f func(list []impl.Item, kind int, x impl.Item, y impl.Item, dist int)) {
	t.Helper()
	for _, list := range searchStores() {
		has := itemsOf(list)
		for _, kind := range allKinds() {
			a, b, ok := impl.ClosestPair(list, kind)
			if ok != (len(list) > 1) {
				t.Fatalf("ClosestPair(%v, %d) = %d, %d, %v", list, kind, a, b, ok)
			}
			if !ok {
				continue
			}
			x, okX := has[a]
			y, okY := has[b]
			if !okX || !okY || a >= b {
				t.Fatalf("ClosestPair(%v, %d) = %d, %d", list, kind, a, b)
			}
			f(list, kind, x, y, impl.Distance(kind, x.At, y.At))
		}
	}
}

func TestP27NoneAreCloser(t *testing.T) {
	eachClosest(t, func(list []impl.Item, kind int, x impl.Item, y impl.Item, dist int) {
		for i, v := range list {
			for _, w := range list[:i] {
				if impl.Distance(kind, v.At, w.At) < dist {
					t.Errorf("ClosestPair(%v, %d) is %d and %d, but %d and %d are closer", list, kind, x.Key, y.Key, v.Key, w.Key)
				}
			}
		}
	})
}

func TestP28ClosestAreNearest(t *testing.T) {
	eachClosest(t, func(list []impl.Item, kind int, x impl.Item, y impl.Item, dist int) {
		for _, z := range []impl.Item{x, y} {
			others, ok := impl.DropItem(list, z.Key)
			if got := nearestOf(t, others, kind, z.At, 1); !ok || got[0].Dist != dist {
				t.Errorf("Nearest to %d in %v, kind %d, is %v, but ClosestPair is %d and %d", z.Key, list, kind, got, x.Key, y.Key)
			}
		}
	})
}

func TestP139NewItemsCanBeNearest(t *testing.T) {
	eachSearch(allKinds(), func(list []impl.Item, kind int, at []int) {
		for _, key := range vec(1, 50, 99) {
			out, ok := impl.PutItem(list, item(key, at, 7))
			if !ok {
				continue
			}
			for _, k := range vec(1, 4, impl.MaxItems) {
				got := nearestOf(t, out, kind, at, k)
				if got[0].Dist != 0 || got[0].Key > key {
					t.Errorf("Nearest(%v, %d, %v, %d) = %v", out, kind, at, k, got)
				}
			}
		}
	})
}

func TestP140OthersDoNotMatter(t *testing.T) {
	eachSearch(allKinds(), func(list []impl.Item, kind int, at []int) {
		for _, k := range vec(1, 2, 5, 15) {
			want := nearestOf(t, list, kind, at, k)
			for _, x := range list {
				if slices.ContainsFunc(want, func(h impl.Hit) bool { return h.Key == x.Key }) {
					continue
				}
				out, ok := impl.DropItem(list, x.Key)
				if got := impl.Nearest(out, kind, at, k); !ok || !slices.Equal(got, want) {
					t.Errorf("Nearest(%v, %d, %v, %d) = %v, and without %d %v", list, kind, at, k, want, x.Key, got)
				}
			}
		}
	})
}

func TestP141LargerDistancesFindMore(t *testing.T) {
	eachSearch(allKinds(), func(list []impl.Item, kind int, at []int) {
		var last []impl.Hit
		for _, most := range someDistances(list, kind, at) {
			got := impl.WithinDist(list, kind, at, most)
			if len(got) < len(last) || !slices.Equal(got[:len(last)], last) {
				t.Errorf("WithinDist(%v, %d, %v, %d) = %v, but less far %v", list, kind, at, most, got, last)
			}
			last = got
		}
		if len(last) != len(list) {
			t.Errorf("WithinDist(%v, %d, %v) finds only %v", list, kind, at, last)
		}
	})
}

func TestP142BoxesCanBePoints(t *testing.T) {
	for _, list := range searchStores() {
		for _, at := range append(vectorsOf(list), searchVectors(list)...) {
			var want []int
			for _, x := range list {
				if slices.Equal(x.At, at) {
					want = append(want, x.Key)
				}
			}
			if got := impl.InBox(list, at, at); !slices.Equal(got, want) {
				t.Errorf("InBox(%v) of the point %v = %v, not %v", list, at, got, want)
			}
		}
	}
}

func TestP143ClosestPairsStay(t *testing.T) {
	checked := 0
	eachClosest(t, func(list []impl.Item, kind int, x impl.Item, y impl.Item, dist int) {
		for _, z := range list {
			if z.Key == x.Key || z.Key == y.Key {
				continue
			}
			checked++
			out, okDrop := impl.DropItem(list, z.Key)
			if a, b, ok := impl.ClosestPair(out, kind); !okDrop || !ok || a != x.Key || b != y.Key {
				t.Errorf("ClosestPair(%v, %d) = %d, %d, and without %d %d, %d, %v", list, kind, x.Key, y.Key, z.Key, a, b, ok)
			}
		}
	})
	if checked < 500 {
		t.Errorf("only %d items can be dropped", checked)
	}
}
