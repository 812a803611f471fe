package tests

import (
	"slices"
	"testing"

	"loop.example/vectorstore/impl"
)

func TestHashConstants(t *testing.T) {
	if impl.MaxPlanes != 6 || impl.MaxHash != 63 {
		t.Errorf("MaxPlanes = %d, MaxHash = %d", impl.MaxPlanes, impl.MaxHash)
	}
}

func TestValidPlanesOrdinary(t *testing.T) {
	for _, planes := range samplePlanes() {
		if !impl.ValidPlanes(planes) {
			t.Errorf("ValidPlanes(%v) = false", planes)
		}
	}
	for many := 1; many <= 6; many++ {
		for _, v := range sampleVectors() {
			if planes := slices.Repeat([][]int{v}, many); !impl.ValidPlanes(planes) {
				t.Errorf("ValidPlanes(%v) = false", planes)
			}
		}
	}
}

func TestValidPlanesInvalid(t *testing.T) {
	for _, planes := range badPlanes() {
		if impl.ValidPlanes(planes) {
			t.Errorf("ValidPlanes(%v) = true", planes)
		}
	}
	if impl.ValidPlanes(slices.Repeat([][]int{flat(0)}, 7)) || impl.ValidPlanes(nil) || impl.ValidPlanes([][]int{nil}) || impl.ValidPlanes(append(sixPlanes()[:5], vec(0, 0, 0, 101))) {
		t.Error("ValidPlanes of too many, of none or of others")
	}
}

func TestHashOfOrdinary(t *testing.T) {
	two := [][]int{vec(1, 0, 0, 0), vec(0, 1, 0, 0)}
	slope := [][]int{vec(1, 2, -3, 0)}
	ends := [][]int{flat(100), vec(100, -100, 100, -100)}
	for _, c := range []struct {
		planes [][]int
		at     []int
		want   int
	}{
		{two, vec(3, -1, 0, 0), 2},
		{two, vec(-1, 3, 0, 0), 1},
		{two, vec(-1, -1, 5, 5), 0},
		{two, vec(1, 1, -5, -5), 3},
		// Vectors on one plane, on the other one, and on both.
		{two, vec(0, -1, 0, 0), 2},
		{two, vec(-1, 0, 0, 0), 1},
		{two, vec(0, 0, -5, 5), 3},
		{two, flat(0), 3},
		{slope, vec(3, 0, 1, 0), 1},
		{slope, vec(2, 0, 1, 0), 0},
		{slope, vec(4, 0, 1, 0), 1},
		{slope, vec(-1, 2, 1, -100), 1},
		{slope, vec(-2, 1, 0, 7), 1},
		{slope, flat(0), 1},
		{[][]int{flat(0)}, flat(-100), 1},
		{ends, flat(100), 3},
		{ends, flat(-100), 1},
		{ends, vec(100, -100, 100, -100), 3},
		{ends, vec(-100, 100, -100, 100), 2},
		{ends, vec(100, -100, 99, -100), 1},
		{ends, vec(99, 100, 100, 100), 2},
		{sixPlanes(), flat(0), 63},
		{sixPlanes(), flat(1), 63},
		{sixPlanes(), flat(-1), 0},
		{sixPlanes(), vec(1, -1, -1, -1), 34},
		{sixPlanes(), vec(1, -2, -1, -1), 32},
		{sixPlanes(), vec(-2, 1, -1, -1), 16},
		{sixPlanes(), vec(-1, -1, 1, -2), 8},
		{sixPlanes(), vec(-1, -2, -3, 3), 5},
		{sixPlanes(), vec(-1, 2, 3, -4), 26},
	} {
		if got := impl.HashOf(c.planes, c.at); got != c.want {
			t.Errorf("HashOf(%v, %v) = %d, not %d", c.planes, c.at, got, c.want)
		}
	}
}

func TestHashOfOrderOfBits(t *testing.T) {
	for many := 1; many <= impl.MaxPlanes; many++ {
		all := 1<<many - 1
		for i := range many {
			bit := 1 << (many - 1 - i)
			for _, c := range []struct {
				others []int
				plane  []int
				want   int
			}{
				{vec(-1, 0, 0, 0), vec(1, 0, 0, 0), bit},
				{vec(1, 0, 0, 0), vec(-1, 0, 0, 0), all - bit},
				// The vector lies on one of the planes, and on all others.
				{vec(-1, 0, 0, 0), vec(0, 1, 0, 0), bit},
				{vec(0, 1, 0, 0), vec(-1, 0, 0, 0), all - bit},
				{flat(0), vec(-1, 0, 0, 0), all - bit},
			} {
				planes := slices.Repeat([][]int{c.others}, many)
				planes[i] = c.plane
				if got := impl.HashOf(planes, vec(9, 0, 0, 0)); got != c.want {
					t.Errorf("HashOf(%v) = %d, not %d", planes, got, c.want)
				}
			}
		}
	}
	for n, want := range vec(0, 32, 48, 56, 60, 62, 63) {
		if got := impl.HashOf(stepPlanes(), stepAt(n)); got != want {
			t.Errorf("HashOf(%v, %v) = %d, not %d", stepPlanes(), stepAt(n), got, want)
		}
	}
}

func TestHashOfZero(t *testing.T) {
	for _, planes := range samplePlanes() {
		if got := impl.HashOf(planes, flat(0)); got != 1<<len(planes)-1 {
			t.Errorf("HashOf(%v) of the zero vector = %d", planes, got)
		}
	}
}

func TestHashOfAll(t *testing.T) {
	seen := map[int]bool{}
	eachHash(func(planes [][]int, at []int) {
		got, want := impl.HashOf(planes, at), wantHash(planes, at)
		if got != want {
			t.Errorf("HashOf(%v, %v) = %d, not %d", planes, at, got, want)
		}
		seen[got] = true
	})
	if len(seen) < 40 {
		t.Errorf("only the hashes %v are there", seen)
	}
}

func TestHashOfInvalid(t *testing.T) {
	check := func(planes [][]int, at []int) {
		if got := impl.HashOf(planes, at); got != -1 {
			t.Errorf("HashOf(%v, %v) = %d", planes, at, got)
		}
	}
	for _, planes := range badPlanes() {
		check(planes, flat(0))
		check(planes, flat(-2))
		check(planes, nil)
	}
	for _, at := range badVectors() {
		for _, planes := range samplePlanes() {
			check(planes, at)
		}
		check([][]int{at}, at)
	}
}

func TestBitsApartOrdinary(t *testing.T) {
	for _, c := range []struct{ a, b, want int }{
		{0, 0, 0}, {63, 63, 0}, {0, 63, 6}, {63, 0, 6}, {5, 3, 2}, {1, 2, 2}, {21, 42, 6},
		{32, 0, 1}, {32, 31, 6}, {32, 63, 5}, {62, 63, 1}, {7, 56, 6}, {7, 15, 1}, {40, 10, 2},
	} {
		if got := impl.BitsApart(c.a, c.b); got != c.want {
			t.Errorf("BitsApart(%d, %d) = %d, not %d", c.a, c.b, got, c.want)
		}
	}
	for a := range 64 {
		for b := range 64 {
			if got, want := impl.BitsApart(a, b), wantApart(a, b); got != want {
				t.Errorf("BitsApart(%d, %d) = %d, not %d", a, b, got, want)
			}
		}
	}
}

func TestBitsApartInvalid(t *testing.T) {
	for _, bad := range badHashes() {
		for n := range 64 {
			if impl.BitsApart(bad, n) != -1 || impl.BitsApart(n, bad) != -1 {
				t.Errorf("BitsApart of %d and %d is %d and %d", bad, n, impl.BitsApart(bad, n), impl.BitsApart(n, bad))
			}
		}
		for _, other := range badHashes() {
			if got := impl.BitsApart(bad, other); got != -1 {
				t.Errorf("BitsApart(%d, %d) = %d", bad, other, got)
			}
		}
	}
}

func TestBucketOfOrdinary(t *testing.T) {
	two := [][]int{vec(1, 0, 0, 0), vec(0, 1, 0, 0)}
	list := []impl.Item{item(1, flat(0), 1), item(2, vec(3, 0, 0, 0), 3), item(3, vec(0, 4, 0, 0), 4), item(4, vec(10, 10, 0, 0), 0)}
	four := []impl.Item{item(10, vec(-1, -1, 0, 0), 1), item(20, vec(-1, 1, 0, 0), 3), item(30, vec(1, -1, 0, 0), 4), item(99, vec(1, 1, 0, 0), 0)}
	steps := stepStore(3, 0, 6, 2, 5, 1, 4)
	for _, c := range []struct {
		planes [][]int
		list   []impl.Item
		at     []int
		want   [][]int
	}{
		{two, list, vec(-1, 1, 0, 0), [][]int{nil, vec(1, 2, 3, 4)}},
		{two, list, vec(-1, -1, 0, 0), [][]int{nil, nil, vec(1, 2, 3, 4)}},
		{two, list, flat(0), [][]int{vec(1, 2, 3, 4)}},
		{two, four, flat(0), [][]int{vec(99), vec(20, 30, 99), vec(10, 20, 30, 99)}},
		{two, four, vec(-7, 0, 3, 3), [][]int{vec(20), vec(10, 20, 99), vec(10, 20, 30, 99)}},
		{two[:1], four, vec(-7, 0, 3, 3), [][]int{vec(10, 20), vec(10, 20, 30, 99)}},
		{stepPlanes(), steps, stepAt(0), [][]int{vec(2), vec(2, 6), vec(2, 4, 6), vec(1, 2, 4, 6), vec(1, 2, 4, 6, 7), vec(1, 2, 4, 5, 6, 7), vec(1, 2, 3, 4, 5, 6, 7)}},
		{stepPlanes(), steps, stepAt(6), [][]int{vec(3), vec(3, 5), vec(3, 5, 7), vec(1, 3, 5, 7), vec(1, 3, 4, 5, 7), vec(1, 3, 4, 5, 6, 7), vec(1, 2, 3, 4, 5, 6, 7)}},
		{stepPlanes(), steps, stepAt(3), [][]int{vec(1), vec(1, 4, 7), vec(1, 4, 5, 6, 7), vec(1, 2, 3, 4, 5, 6, 7)}},
		{sixPlanes(), []impl.Item{item(99, flat(-100), 15)}, flat(100), [][]int{nil, nil, nil, nil, nil, nil, vec(99)}},
		{sixPlanes(), nil, flat(0), [][]int{nil}},
		{sixPlanes(), []impl.Item{}, flat(0), [][]int{nil}},
		{two, corners(10)[:4], vec(1, 1, 0, 0), [][]int{vec(18), vec(8, 13, 18), vec(3, 8, 13, 18)}},
	} {
		for bits := range impl.MaxPlanes + 1 {
			want := c.want[min(bits, len(c.want)-1)]
			if got := impl.BucketOf(c.planes, c.list, c.at, bits); !slices.Equal(got, want) {
				t.Errorf("BucketOf(%v, %v, %v, %d) = %v, not %v", c.planes, c.list, c.at, bits, got, want)
			}
		}
	}
}

func TestBucketOfFull(t *testing.T) {
	list := stepStore(0, 0, 1, 1, 2, 2, 3, 3, 4, 4, 5, 5, 6, 6, -1, 7)
	for bits, want := range [][]int{
		vec(1, 2, 15), vec(1, 2, 3, 4, 15), vec(1, 2, 3, 4, 5, 6, 15), vec(1, 2, 3, 4, 5, 6, 7, 8, 15),
		vec(1, 2, 3, 4, 5, 6, 7, 8, 9, 10, 15), vec(1, 2, 3, 4, 5, 6, 7, 8, 9, 10, 11, 12, 15), keysOf(list),
	} {
		if got := impl.BucketOf(stepPlanes(), list, stepAt(0), bits); !slices.Equal(got, want) {
			t.Errorf("BucketOf 16 items with %d bits = %v, not %v", bits, got, want)
		}
	}
	same := corners(10)
	if got := impl.BucketOf([][]int{flat(0)}, same, flat(-100), 0); !slices.Equal(got, keysOf(same)) {
		t.Errorf("BucketOf 16 items on a plane = %v", got)
	}
	if got := impl.BucketOf(sixPlanes()[:4], same, flat(1), 0); !slices.Equal(got, vec(78)) {
		t.Errorf("BucketOf 16 corners without any bits = %v", got)
	}
	for bits, many := range vec(1, 5, 11, 15, 16, 16, 16) {
		if got := impl.BucketOf(sixPlanes()[:4], same, flat(1), bits); len(got) != many {
			t.Errorf("BucketOf 16 corners with %d bits = %v", bits, got)
		}
	}
}

func TestBucketOfAll(t *testing.T) {
	part := 0
	eachHashed(func(planes [][]int, list []impl.Item, at []int) {
		for bits := range impl.MaxPlanes + 1 {
			want := keysOf(wantBucket(planes, list, at, bits))
			if got := impl.BucketOf(planes, list, at, bits); !slices.Equal(got, want) {
				t.Errorf("BucketOf(%v, %v, %v, %d) = %v, not %v", planes, list, at, bits, got, want)
			}
			if len(want) > 0 && len(want) < len(list) {
				part++
			}
		}
	})
	if part < 500 {
		t.Errorf("only %d buckets have a part of the items", part)
	}
}

func TestBucketOfInvalid(t *testing.T) {
	check := func(planes [][]int, list []impl.Item, at []int, bits int) {
		if got := impl.BucketOf(planes, list, at, bits); len(got) != 0 {
			t.Errorf("BucketOf(%v, %v, %v, %d) = %v", planes, list, at, bits, got)
		}
	}
	badArguments(samplePlanes(), badPlanes(), func(planes [][]int, list []impl.Item, at []int) {
		check(planes, list, at, 0)
		check(planes, list, at, impl.MaxPlanes)
	})
	for _, bits := range badBits() {
		for _, list := range sampleStores() {
			for _, planes := range samplePlanes() {
				check(planes, list, flat(1), bits)
				check(planes, list, flat(0), bits)
			}
		}
		check(nil, badStores()[0], nil, bits)
	}
}

func TestHashNearestOrdinary(t *testing.T) {
	two := [][]int{vec(1, 0, 0, 0), vec(0, 1, 0, 0)}
	// The item with the key 2 is nearer than that with the key 4, but on the other side of a plane.
	list := []impl.Item{item(2, vec(-1, 1, 0, 0), 1), item(4, vec(50, 50, 0, 0), 3), item(6, flat(0), 4), item(8, vec(-9, -1, 0, 0), 0)}
	for _, c := range []struct {
		planes [][]int
		list   []impl.Item
		at     []int
		want   [][]impl.Hit
	}{
		{two, list, vec(1, 1, 0, 0), [][]impl.Hit{
			{hit(6, 2), hit(4, 4802)}, {hit(6, 2), hit(2, 4), hit(4, 4802)}, {hit(6, 2), hit(2, 4), hit(8, 104), hit(4, 4802)}}},
		{two, list, vec(-1, 1, 0, 0), [][]impl.Hit{
			{hit(2, 0)}, {hit(2, 0), hit(6, 2), hit(8, 68), hit(4, 5002)}}},
		{two, list, vec(1, -1, 0, 0), [][]impl.Hit{
			nil, {hit(6, 2), hit(8, 100), hit(4, 5002)}, {hit(6, 2), hit(2, 8), hit(8, 100), hit(4, 5002)}}},
		{stepPlanes(), stepStore(3, 0, 6, 2), stepAt(3), [][]impl.Hit{
			{hit(1, 0)}, {hit(1, 0), hit(4, 1)}, {hit(1, 0), hit(4, 1)}, {hit(1, 0), hit(4, 1), hit(2, 9), hit(3, 9)}}},
		{sixPlanes(), []impl.Item{item(99, flat(-100), 15)}, flat(100), [][]impl.Hit{nil, nil, nil, nil, nil, nil, {hit(99, 160000)}}},
		{sixPlanes(), nil, flat(0), [][]impl.Hit{nil}},
		{sixPlanes(), []impl.Item{}, flat(0), [][]impl.Hit{nil}},
		// The keys decide between items that are as near.
		{two, corners(10)[:4], vec(0, 1, 10, 10), [][]impl.Hit{
			{hit(18, 981)}, {hit(13, 981), hit(18, 981), hit(8, 1021)}, {hit(13, 981), hit(18, 981), hit(3, 1021), hit(8, 1021)}}},
	} {
		for bits := range impl.MaxPlanes + 1 {
			all := c.want[min(bits, len(c.want)-1)]
			for k := 1; k <= impl.MaxItems; k++ {
				if got := impl.HashNearest(c.planes, c.list, c.at, bits, k); !slices.Equal(got, all[:min(k, len(all))]) {
					t.Errorf("HashNearest(%v, %v, %v, %d, %d) = %v, not the first of %v", c.planes, c.list, c.at, bits, k, got, all)
				}
			}
		}
	}
}

func TestHashNearestAll(t *testing.T) {
	missed := 0
	eachHashed(func(planes [][]int, list []impl.Item, at []int) {
		for bits := range impl.MaxPlanes + 1 {
			want := wantHits(wantBucket(planes, list, at, bits), impl.DistSquare, at)
			if len(want) > 0 && want[0].Dist > wantHits(list, impl.DistSquare, at)[0].Dist {
				missed++
			}
			for _, k := range vec(1, 2, 5, impl.MaxItems) {
				if got := impl.HashNearest(planes, list, at, bits, k); !slices.Equal(got, want[:min(k, len(want))]) {
					t.Errorf("HashNearest(%v, %v, %v, %d, %d) = %v, not the first of %v", planes, list, at, bits, k, got, want)
				}
			}
		}
	})
	if missed < 500 {
		t.Errorf("only %d searches miss the nearest item", missed)
	}
}

func TestHashNearestInvalid(t *testing.T) {
	check := func(planes [][]int, list []impl.Item, at []int, bits int, k int) {
		if got := impl.HashNearest(planes, list, at, bits, k); len(got) != 0 {
			t.Errorf("HashNearest(%v, %v, %v, %d, %d) = %v", planes, list, at, bits, k, got)
		}
	}
	badArguments(samplePlanes(), badPlanes(), func(planes [][]int, list []impl.Item, at []int) {
		check(planes, list, at, 0, 1)
		check(planes, list, at, impl.MaxPlanes, impl.MaxItems)
	})
	for _, list := range sampleStores() {
		for _, planes := range samplePlanes() {
			for _, bits := range badBits() {
				check(planes, list, flat(1), bits, 1)
				check(planes, list, flat(1), bits, impl.MaxItems)
				check(planes, list, flat(1), bits, 0)
			}
			for _, k := range badCounts() {
				check(planes, list, flat(1), 0, k)
				check(planes, list, flat(1), impl.MaxPlanes, k)
			}
		}
	}
	check(nil, badStores()[0], nil, -1, 0)
}

func TestHashArgumentsAreNotChanged(t *testing.T) {
	eachHashed(func(planes [][]int, list []impl.Item, at []int) {
		planes, list, at = roomyVectors(planes), roomyItems(list), roomy(at)
		wantPlanes, wantList, wantAt := wholeMemory(planes), cloneItems(list), slices.Clone(at[:cap(at)])
		impl.ValidPlanes(planes)
		impl.HashOf(planes, at)
		for _, bits := range vec(0, 2, impl.MaxPlanes) {
			impl.BucketOf(planes, list, at, bits)
			impl.HashNearest(planes, list, at, bits, 3)
			impl.HashNearest(planes, list, at, bits, impl.MaxItems)
		}
		if !sameVectors(wholeMemory(planes), wantPlanes) || !sameMemory(list, wantList) || !slices.Equal(at[:cap(at)], wantAt) {
			t.Errorf("arguments are changed: %v, %v, %v", wholeMemory(planes), list[:cap(list)], at[:cap(at)])
		}
	})
}

func TestHashResultsAreFresh(t *testing.T) {
	eachHashed(func(planes [][]int, list []impl.Item, at []int) {
		planes, list, at = roomyVectors(planes), roomyItems(list), roomy(at)
		for _, bits := range vec(0, impl.MaxPlanes) {
			keys := impl.BucketOf(planes, list, at, bits)
			for _, v := range slices.Concat(planes[:cap(planes)], vectorsOf(list[:cap(list)]), [][]int{at, impl.BucketOf(planes, list, at, bits)}) {
				if overlap(keys, v) {
					t.Errorf("BucketOf(%v, %v, %v, %d) shares %v", planes, list, at, bits, v)
				}
			}
			hits := impl.HashNearest(planes, list, at, bits, 5)
			if overlap(hits, impl.HashNearest(planes, list, at, bits, 5)) || overlap(hits, impl.Nearest(list, impl.DistSquare, at, 5)) {
				t.Errorf("two searches with %d bits in %v share their hits", bits, list)
			}
		}
	})
}

func TestHashResultsKeepNothing(t *testing.T) {
	list := stepStore(3, 0, 6, 2)
	for range 2 {
		keys, hits := impl.BucketOf(stepPlanes(), list, stepAt(3), 1), impl.HashNearest(stepPlanes(), list, stepAt(3), 1, 2)
		if !slices.Equal(keys, vec(1, 4)) || !slices.Equal(hits, []impl.Hit{hit(1, 0), hit(4, 1)}) {
			t.Errorf("BucketOf(%v) = %v, HashNearest = %v", list, keys, hits)
		}
		// What is done to a result does not come back in the next one.
		clear(keys)
		clear(hits)
	}
}
