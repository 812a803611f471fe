package tests

import (
	"math"
	"slices"
	"testing"

	"loop.example/vectorstore/impl"
)

func TestNearestOrdinary(t *testing.T) {
	list := []impl.Item{item(1, flat(0), 1), item(2, vec(3, 0, 0, 0), 3), item(3, vec(0, 4, 0, 0), 4), item(4, vec(10, 10, 0, 0), 0)}
	at := vec(1, 0, 0, 0)
	for _, c := range []struct {
		kind int
		want []impl.Hit
	}{
		{impl.DistSum, []impl.Hit{hit(1, 1), hit(2, 2), hit(3, 5), hit(4, 19)}},
		{impl.DistMost, []impl.Hit{hit(1, 1), hit(2, 2), hit(3, 4), hit(4, 10)}},
		{impl.DistSquare, []impl.Hit{hit(1, 1), hit(2, 4), hit(3, 17), hit(4, 181)}},
		{impl.DistCount, []impl.Hit{hit(1, 1), hit(2, 1), hit(3, 2), hit(4, 2)}},
	} {
		for k := 1; k <= impl.MaxItems; k++ {
			want := c.want[:min(k, 4)]
			if got := impl.Nearest(list, c.kind, at, k); !slices.Equal(got, want) {
				t.Errorf("Nearest(kind %d, k %d) = %v, not %v", c.kind, k, got, want)
			}
		}
	}
}

func TestNearestEqualDistances(t *testing.T) {
	list := corners(10)
	for k := 1; k <= impl.MaxItems; k++ {
		got := impl.Nearest(list, impl.DistSum, flat(0), k)
		if len(got) != k {
			t.Fatalf("Nearest of %d = %v", k, got)
		}
		for i, h := range got {
			if h != hit(3+5*i, 40) {
				t.Errorf("Nearest of %d has %v at %d", k, h, i)
			}
		}
	}
	twins := line(4, 1, 4, 1, 4)
	if got := impl.Nearest(twins, impl.DistMost, flat(0), 3); !slices.Equal(got, []impl.Hit{hit(2, 1), hit(4, 1), hit(1, 4)}) {
		t.Errorf("Nearest of twins = %v", got)
	}
}

func TestNearestFewItems(t *testing.T) {
	for _, empty := range [][]impl.Item{nil, {}} {
		for k := 1; k <= impl.MaxItems; k++ {
			if got := impl.Nearest(empty, impl.DistSum, flat(0), k); len(got) != 0 {
				t.Errorf("Nearest of no items = %v", got)
			}
		}
	}
	one := []impl.Item{item(99, flat(-100), 15)}
	for i, want := range vec(800, 200, 160000, 4) {
		for k := 1; k <= impl.MaxItems; k++ {
			if got := impl.Nearest(one, i+1, flat(100), k); !slices.Equal(got, []impl.Hit{hit(99, want)}) {
				t.Errorf("Nearest of one item, kind %d, k %d = %v", i+1, k, got)
			}
		}
	}
}

func TestNearestAll(t *testing.T) {
	eachSearch(allKinds(), func(list []impl.Item, kind int, at []int) {
		want := wantHits(list, kind, at)
		for k := 1; k <= impl.MaxItems; k++ {
			if got := impl.Nearest(list, kind, at, k); !slices.Equal(got, want[:min(k, len(want))]) {
				t.Errorf("Nearest(%v, %d, %v, %d) = %v, not the first of %v", list, kind, at, k, got, want)
			}
		}
	})
}

func TestNearestInvalid(t *testing.T) {
	badSearches(allKinds(), badKinds(), func(list []impl.Item, kind int, at []int, k int) {
		if got := impl.Nearest(list, kind, at, k); len(got) != 0 {
			t.Errorf("Nearest(%v, %d, %v, %d) = %v", list, kind, at, k, got)
		}
	})
}

func TestWithinDistOrdinary(t *testing.T) {
	list := line(0, 9, 2, 3, 5)
	at := vec(3, 0, 0, 0)
	all := []impl.Hit{hit(4, 0), hit(3, 1), hit(5, 2), hit(1, 3), hit(2, 6)}
	for most, many := range vec(1, 2, 3, 4, 4, 4, 5, 5) {
		if got := impl.WithinDist(list, impl.DistSum, at, most); !slices.Equal(got, all[:many]) {
			t.Errorf("WithinDist of %d = %v, not %v", most, got, all[:many])
		}
	}
	for _, most := range vec(impl.FarAway, math.MaxInt) {
		if got := impl.WithinDist(list, impl.DistSum, at, most); !slices.Equal(got, all) {
			t.Errorf("WithinDist of %d = %v", most, got)
		}
	}
	if got := impl.WithinDist(list, impl.DistSquare, at, 4); !slices.Equal(got, []impl.Hit{hit(4, 0), hit(3, 1), hit(5, 4)}) {
		t.Errorf("WithinDist of squares = %v", got)
	}
	if got := impl.WithinDist(list, impl.DistSum, vec(1, 9, 0, 0), 0); len(got) != 0 {
		t.Errorf("WithinDist of 0 without an item there = %v", got)
	}
}

func TestWithinDistFull(t *testing.T) {
	list := corners(10)
	if got := impl.WithinDist(list, impl.DistMost, flat(0), 9); len(got) != 0 {
		t.Errorf("WithinDist of 9 = %v", got)
	}
	for _, most := range vec(10, 11, math.MaxInt) {
		got := impl.WithinDist(list, impl.DistMost, flat(0), most)
		if len(got) != impl.MaxItems || got[0] != hit(3, 10) || got[15] != hit(78, 10) {
			t.Errorf("WithinDist of %d = %v", most, got)
		}
	}
	for _, empty := range [][]impl.Item{nil, {}} {
		if got := impl.WithinDist(empty, impl.DistMost, flat(0), 100); len(got) != 0 {
			t.Errorf("WithinDist of no items = %v", got)
		}
	}
}

func TestWithinDistInvalid(t *testing.T) {
	badSearches(allKinds(), badKinds(), func(list []impl.Item, kind int, at []int, k int) {
		if k < 1 || k > impl.MaxItems { // no argument of WithinDist
			return
		}
		for _, most := range vec(0, 1, 1000, math.MaxInt) {
			if got := impl.WithinDist(list, kind, at, most); len(got) != 0 {
				t.Errorf("WithinDist(%v, %d, %v, %d) = %v", list, kind, at, most, got)
			}
		}
	})
	for _, list := range searchStores() {
		for _, kind := range allKinds() {
			for _, most := range vec(-1, -2, -1000, -impl.FarAway, math.MinInt) {
				if got := impl.WithinDist(list, kind, flat(0), most); len(got) != 0 {
					t.Errorf("WithinDist(%v, %d) of %d = %v", list, kind, most, got)
				}
			}
		}
	}
}

func TestInBoxOrdinary(t *testing.T) {
	list := []impl.Item{item(4, vec(0, 0, 0, 0), 1), item(8, vec(3, -1, 0, 0), 3), item(15, vec(0, 4, 0, 2), 4), item(16, vec(3, 4, -5, 2), 0)}
	for _, c := range []struct {
		low, high []int
		want      []int
	}{
		{flat(-100), flat(100), vec(4, 8, 15, 16)},
		{vec(0, -1, -5, 0), vec(3, 4, 0, 2), vec(4, 8, 15, 16)},
		{vec(1, -1, -5, 0), vec(3, 4, 0, 2), vec(8, 16)},
		{vec(0, 0, -5, 0), vec(3, 4, 0, 2), vec(4, 15, 16)},
		{vec(0, -1, -4, 0), vec(3, 4, 0, 2), vec(4, 8, 15)},
		{vec(0, -1, -5, 1), vec(3, 4, 0, 2), vec(15, 16)},
		{vec(0, -1, -5, 0), vec(2, 4, 0, 2), vec(4, 15)},
		{vec(0, -1, -5, 0), vec(3, 3, 0, 2), vec(4, 8)},
		{vec(0, -1, -5, 0), vec(3, 4, -1, 2), vec(16)},
		{vec(0, -1, -5, 0), vec(3, 4, 0, 1), vec(4, 8)},
		{vec(3, -1, 0, 0), vec(3, -1, 0, 0), vec(8)},
		{vec(3, -1, 0, 1), vec(3, -1, 0, 1), nil},
		{flat(50), flat(100), nil},
	} {
		if got := impl.InBox(list, c.low, c.high); !slices.Equal(got, c.want) {
			t.Errorf("InBox(%v, %v) = %v, not %v", c.low, c.high, got, c.want)
		}
		if got := impl.InBox(nil, c.low, c.high); len(got) != 0 {
			t.Errorf("InBox of no items = %v", got)
		}
	}
}

func TestInBoxLowAboveHigh(t *testing.T) {
	for _, list := range searchStores() {
		if len(list) == 0 {
			continue
		}
		low, high, _ := impl.BoundsOf(list)
		for i := range impl.Dims {
			a, b := slices.Clone(low), slices.Clone(high)
			a[i], b[i] = 100, -100
			if got := impl.InBox(list, a, b); len(got) != 0 {
				t.Errorf("InBox(%v, %v, %v) = %v", list, a, b, got)
			}
			a[i], b[i] = high[i], high[i]-1
			if got := impl.InBox(list, a, b); impl.ValidVector(b) && len(got) != 0 {
				t.Errorf("InBox(%v, %v, %v) = %v", list, a, b, got)
			}
		}
	}
}

func TestInBoxInvalid(t *testing.T) {
	low, high := flat(-100), flat(100)
	for _, list := range badStores() {
		if got := impl.InBox(list, low, high); len(got) != 0 {
			t.Errorf("InBox of %v = %v", list, got)
		}
	}
	for _, list := range sampleStores() {
		for _, bad := range badVectors() {
			if len(impl.InBox(list, bad, high)) != 0 || len(impl.InBox(list, low, bad)) != 0 || len(impl.InBox(list, bad, bad)) != 0 {
				t.Errorf("InBox of %v with %v has keys", list, bad)
			}
		}
	}
	for i := range impl.Dims {
		wideLow, wideHigh := flat(-100), flat(100)
		wideLow[i], wideHigh[i] = -101, 101
		if len(impl.InBox(fullStore(), wideLow, high)) != 0 || len(impl.InBox(fullStore(), low, wideHigh)) != 0 {
			t.Errorf("InBox with a coordinate beyond the limit at %d has keys", i)
		}
	}
}

func TestClosestPairOrdinary(t *testing.T) {
	for _, c := range []struct {
		list          []impl.Item
		kind          int
		first, second int
	}{
		{line(0, 9), impl.DistSum, 1, 2},
		{line(0, 9, 2, 4, 5), impl.DistSum, 4, 5},
		{line(0, 9, 2, 4, 9), impl.DistSum, 2, 5},
		{line(5, -9, 40, 30, 6), impl.DistSquare, 1, 5},
		{line(4, 4), impl.DistMost, 1, 2},
		{line(100, -100), impl.DistSquare, 1, 2},
		{[]impl.Item{item(98, flat(100), 0), item(99, flat(-100), 0)}, impl.DistSquare, 98, 99},
		{[]impl.Item{item(3, flat(0), 0), item(5, flat(4), 0), item(9, vec(9, 0, 0, 0), 0)}, impl.DistSum, 3, 9},
		{[]impl.Item{item(3, flat(0), 0), item(5, flat(4), 0), item(9, vec(9, 0, 0, 0), 0)}, impl.DistMost, 3, 5},
		{[]impl.Item{item(3, flat(0), 0), item(5, flat(4), 0), item(9, vec(9, 0, 0, 0), 0)}, impl.DistSquare, 3, 5},
		{[]impl.Item{item(3, flat(0), 0), item(5, flat(4), 0), item(9, vec(9, 0, 0, 0), 0)}, impl.DistCount, 3, 9},
	} {
		if a, b, ok := impl.ClosestPair(c.list, c.kind); !ok || a != c.first || b != c.second {
			t.Errorf("ClosestPair(%v, %d) = %d, %d, %v", c.list, c.kind, a, b, ok)
		}
	}
}

func TestClosestPairSeveral(t *testing.T) {
	for _, c := range []struct {
		list          []impl.Item
		first, second int
	}{
		{line(0, 10, 20, 30), 1, 2},
		{line(0, 30, 20, 10), 1, 4},
		{line(50, 0, 10, 20, 9, 51), 1, 6},
		{line(50, 0, 10, 20, 9, 1), 2, 6},
		{line(0, 40, 1, 41), 1, 3},
		{line(0, 40, 41, 1), 1, 4},
		{line(7, 7, 7, 7), 1, 2},
		{line(9, 7, 8, 7, 7), 2, 4},
		{line(10, 0, 5, 15), 1, 3},
	} {
		if a, b, ok := impl.ClosestPair(c.list, impl.DistSum); !ok || a != c.first || b != c.second {
			t.Errorf("ClosestPair(%v) = %d, %d, %v", c.list, a, b, ok)
		}
	}
}

func TestClosestPairAll(t *testing.T) {
	for _, list := range searchStores() {
		for _, kind := range allKinds() {
			var best []int // distance and keys, so that slices.Compare decides between pairs
			for _, x := range list {
				for _, y := range list {
					pair := vec(impl.Distance(kind, x.At, y.At), x.Key, y.Key)
					if x.Key < y.Key && (best == nil || slices.Compare(pair, best) < 0) {
						best = pair
					}
				}
			}
			a, b, ok := impl.ClosestPair(list, kind)
			if best == nil && (ok || a != 0 || b != 0) || best != nil && (!ok || a != best[1] || b != best[2]) {
				t.Errorf("ClosestPair(%v, %d) = %d, %d, %v, not %v", list, kind, a, b, ok, best)
			}
		}
	}
}

func TestClosestPairInvalid(t *testing.T) {
	check := func(list []impl.Item, kind int) {
		if a, b, ok := impl.ClosestPair(list, kind); ok || a != 0 || b != 0 {
			t.Errorf("ClosestPair(%v, %d) = %d, %d, %v", list, kind, a, b, ok)
		}
	}
	for _, kind := range allKinds() {
		check(nil, kind)
		check([]impl.Item{}, kind)
		check([]impl.Item{item(1, flat(0), 0)}, kind)
		check([]impl.Item{item(99, flat(100), 15)}, kind)
		for _, list := range badStores() {
			check(list, kind)
		}
	}
	for _, kind := range badKinds() {
		for _, list := range searchStores() {
			check(list, kind)
		}
	}
}

func TestNearestArgumentsAreNotChanged(t *testing.T) {
	for _, sample := range searchStores() {
		list := roomyItems(sample)
		low, high := roomy(flat(-50)), roomy(flat(50))
		want, wantLow, wantHigh := cloneItems(list), slices.Clone(low[:cap(low)]), slices.Clone(high[:cap(high)])
		for _, kind := range allKinds() {
			for _, k := range vec(1, 3, impl.MaxItems) {
				impl.Nearest(list, kind, low, k)
				impl.WithinDist(list, kind, high, 50*k)
			}
			impl.ClosestPair(list, kind)
		}
		impl.InBox(list, low, high)
		if !sameMemory(list, want) || !slices.Equal(low[:cap(low)], wantLow) || !slices.Equal(high[:cap(high)], wantHigh) {
			t.Errorf("arguments are changed: %v, %v, %v", list[:cap(list)], low[:cap(low)], high[:cap(high)])
		}
	}
}

func TestNearestResultsAreFresh(t *testing.T) {
	for _, sample := range searchStores() {
		list := roomyItems(sample)
		low, high := roomy(flat(-100)), roomy(flat(100))
		keys := impl.InBox(list, low, high)
		for _, v := range append(vectorsOf(list[:cap(list)]), low, high, impl.InBox(list, low, high)) {
			if overlap(keys, v) {
				t.Errorf("InBox(%v) shares %v", list, v)
			}
		}
		for _, kind := range allKinds() {
			for _, k := range vec(1, 3, impl.MaxItems) {
				once, within := impl.Nearest(list, kind, low, k), impl.WithinDist(list, kind, low, 100*k)
				if overlap(once, impl.Nearest(list, kind, low, k)) || overlap(within, impl.WithinDist(list, kind, low, 100*k)) || overlap(once, within) {
					t.Errorf("two searches of kind %d in %v share their hits", kind, list)
				}
			}
		}
	}
}
