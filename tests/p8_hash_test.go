package tests

import (
	"slices"
	"testing"

	"loop.example/vectorstore/impl"
)

func TestP64PlanesCanBeLeftOut(t *testing.T) {
	for _, planes := range samplePlanes() {
		for many := len(planes); many >= 1; many-- {
			if !impl.ValidPlanes(planes[:many]) {
				t.Errorf("ValidPlanes(%v) = false", planes[:many])
			}
		}
		if impl.ValidPlanes(planes[:0]) {
			t.Error("no planes are valid")
		}
	}
}

func TestP65HashesHaveBits(t *testing.T) {
	both := map[int]int{}
	eachHash(func(planes [][]int, at []int) {
		last := len(planes) - 1
		bit := 0
		product, ok := impl.DotOf(planes[last], at)
		if !ok {
			t.Fatalf("DotOf(%v, %v) fails", planes[last], at)
		}
		if product >= 0 {
			bit = 1
		}
		both[bit]++
		want := bit
		if last > 0 {
			want = 2*hashed(t, planes[:last], at) + bit
		}
		if got := hashed(t, planes, at); got != want {
			t.Errorf("HashOf(%v, %v) = %d, not %d", planes, at, got, want)
		}
	})
	if both[0] < 100 || both[1] < 100 {
		t.Errorf("the last bits are %v", both)
	}
}

func TestP66OppositeVectorsHaveOppositeHashes(t *testing.T) {
	checked, onPlanes := 0, 0
	eachHash(func(planes [][]int, at []int) {
		if slices.ContainsFunc(planes, func(p []int) bool { return productOf(p, at) == 0 }) {
			onPlanes++
			return
		}
		checked++
		one, other := hashed(t, planes, at), hashed(t, planes, negated(at))
		if one+other != 1<<len(planes)-1 || one&other != 0 {
			t.Errorf("HashOf(%v, %v) = %d, and of the opposite vector %d", planes, at, one, other)
		}
	})
	if checked < 200 || onPlanes < 200 {
		t.Errorf("%d vectors lie beside all planes, and %d do not", checked, onPlanes)
	}
}

func TestP66OnPlanesBothHaveTheBit(t *testing.T) {
	eachHash(func(planes [][]int, at []int) {
		both := hashed(t, planes, at) & hashed(t, planes, negated(at))
		for i, p := range planes {
			if bit := both >> (len(planes) - 1 - i) & 1; (bit == 1) != (productOf(p, at) == 0) {
				t.Errorf("HashOf(%v, %v) and of the opposite vector both have %b", planes, at, both)
			}
		}
	})
}

func TestP67BitsDifferInBothOrders(t *testing.T) {
	for a := range impl.MaxHash + 1 {
		for b := range impl.MaxHash + 1 {
			apart := bitsApart(t, a, b)
			if back := bitsApart(t, b, a); apart != back || (apart == 0) != (a == b) {
				t.Errorf("BitsApart(%d, %d) = %d, and the other way round %d", a, b, apart, back)
			}
		}
	}
}

func TestP68DetoursHaveMoreBits(t *testing.T) {
	for a := range impl.MaxHash + 1 {
		for b := range impl.MaxHash + 1 {
			apart, detour := bitsApart(t, a, b), bitsApart(t, a, 0)+bitsApart(t, 0, b)
			if apart > detour || apart%2 != detour%2 {
				t.Errorf("BitsApart(%d, %d) = %d, but both to 0 add up to %d", a, b, apart, detour)
			}
		}
	}
}

func TestP69BucketsHaveNearHashes(t *testing.T) {
	eachHashed(func(planes [][]int, list []impl.Item, at []int) {
		hash := hashed(t, planes, at)
		for bits := range impl.MaxPlanes + 1 {
			keys := impl.BucketOf(planes, list, at, bits)
			for _, x := range list {
				apart := bitsApart(t, hash, hashed(t, planes, x.At))
				if slices.Contains(keys, x.Key) != (apart <= bits) {
					t.Errorf("BucketOf(%v, %v, %v, %d) = %v, but %d is %d bits apart", planes, list, at, bits, keys, x.Key, apart)
				}
			}
			for i, key := range keys {
				if _, there := itemsOf(list)[key]; !there || i > 0 && key <= keys[i-1] {
					t.Errorf("BucketOf(%v, %v, %v, %d) = %v is wrong at %d", planes, list, at, bits, keys, i)
				}
			}
		}
	})
}

func TestP70MoreBitsFindMore(t *testing.T) {
	more := 0
	eachHashed(func(planes [][]int, list []impl.Item, at []int) {
		last := impl.BucketOf(planes, list, at, 0)
		for bits := 1; bits <= impl.MaxPlanes; bits++ {
			next := impl.BucketOf(planes, list, at, bits)
			for _, key := range last {
				if !slices.Contains(next, key) {
					t.Errorf("BucketOf(%v, %v, %v, %d) = %v, but one less %v", planes, list, at, bits, next, last)
				}
			}
			if len(next) > len(last) {
				more++
			}
			last = next
		}
		for bits := len(planes); bits <= impl.MaxPlanes; bits++ {
			if got := impl.BucketOf(planes, list, at, bits); !slices.Equal(got, keysOf(list)) {
				t.Errorf("BucketOf(%v, %v, %v, %d) = %v", planes, list, at, bits, got)
			}
		}
	})
	if more < 500 {
		t.Errorf("only %d buckets get more items with one bit more", more)
	}
}

func TestP71HashesFindSome(t *testing.T) {
	eachHashed(func(planes [][]int, list []impl.Item, at []int) {
		has := itemsOf(list)
		for bits := range impl.MaxPlanes + 1 {
			keys := impl.BucketOf(planes, list, at, bits)
			for _, k := range vec(1, 3, impl.MaxItems) {
				hits := impl.HashNearest(planes, list, at, bits, k)
				if len(hits) != min(k, len(keys)) {
					t.Fatalf("HashNearest(%v, %v, %v, %d, %d) = %v", planes, list, at, bits, k, hits)
				}
				for _, h := range hits {
					if !slices.Contains(keys, h.Key) || h.Dist != impl.Distance(impl.DistSquare, has[h.Key].At, at) {
						t.Errorf("HashNearest(%v, %v, %v, %d, %d) has %v", planes, list, at, bits, k, h)
					}
				}
				if want := nearestOf(t, list, impl.DistSquare, at, k); bits >= len(planes) && !slices.Equal(hits, want) {
					t.Errorf("HashNearest(%v, %v, %v, %d, %d) = %v, not %v", planes, list, at, bits, k, hits, want)
				}
			}
		}
	})
}

func TestP154PlanesLookAtThemselves(t *testing.T) {
	for _, planes := range samplePlanes() {
		for i, p := range planes {
			if hash := hashed(t, planes, p); hash>>(len(planes)-1-i)&1 != 1 {
				t.Errorf("HashOf(%v, %v) = %b", planes, p, hash)
			}
		}
	}
}

func TestP155HashesLookAtDirections(t *testing.T) {
	checked := 0
	eachHash(func(planes [][]int, at []int) {
		twice := moved(at, at)
		if !impl.ValidVector(twice) {
			return
		}
		checked++
		if one, other := hashed(t, planes, at), hashed(t, planes, twice); one != other {
			t.Errorf("HashOf(%v, %v) = %d, and of %v it is %d", planes, at, one, twice, other)
		}
	})
	if checked < 200 {
		t.Errorf("only %d vectors can be doubled", checked)
	}
}

func TestP156ItemsAreInTheirOwnBuckets(t *testing.T) {
	for _, list := range searchStores() {
		for _, planes := range samplePlanes() {
			for _, x := range list {
				for bits := range impl.MaxPlanes + 1 {
					if keys := impl.BucketOf(planes, list, x.At, bits); !slices.Contains(keys, x.Key) {
						t.Errorf("BucketOf(%v, %v, %v, %d) = %v without %d", planes, list, x.At, bits, keys, x.Key)
					}
				}
			}
		}
	}
}
