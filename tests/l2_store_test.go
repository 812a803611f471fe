package tests

import (
	"slices"
	"testing"

	"loop.example/vectorstore/impl"
)

func TestConstantsOfStores(t *testing.T) {
	if impl.MaxKey != 99 || impl.MaxTags != 15 {
		t.Errorf("constants are %d and %d", impl.MaxKey, impl.MaxTags)
	}
}

func TestValidStore(t *testing.T) {
	for _, list := range sampleStores() {
		if !impl.ValidStore(list) {
			t.Errorf("%v is not valid", list)
		}
	}
	for _, list := range badStores() {
		if impl.ValidStore(list) {
			t.Errorf("%v is valid", list)
		}
	}
}

func TestValidStoreLimits(t *testing.T) {
	for key := -2; key <= 102; key++ {
		if impl.ValidStore([]impl.Item{item(key, flat(0), 0)}) != (key >= 1 && key <= 99) {
			t.Errorf("ValidStore is wrong for the key %d", key)
		}
	}
	for tags := -2; tags <= 18; tags++ {
		if impl.ValidStore([]impl.Item{item(1, flat(0), tags)}) != (tags >= 0 && tags <= 15) {
			t.Errorf("ValidStore is wrong for the tags %d", tags)
		}
	}
	for size := 0; size <= 20; size++ {
		list := []impl.Item{}
		for key := 1; key <= size; key++ {
			list = append(list, item(key, flat(0), 0))
		}
		if impl.ValidStore(list) != (size <= 16) {
			t.Errorf("ValidStore is wrong for %d items", size)
		}
	}
}

func TestPutItemPlaces(t *testing.T) {
	list := []impl.Item{item(10, flat(1), 1), item(20, flat(2), 2), item(30, flat(3), 3)}
	for _, c := range []struct {
		key  int
		want []int
	}{
		{1, vec(1, 10, 20, 30)},
		{10, vec(10, 20, 30)},
		{11, vec(10, 11, 20, 30)},
		{20, vec(10, 20, 30)},
		{29, vec(10, 20, 29, 30)},
		{30, vec(10, 20, 30)},
		{99, vec(10, 20, 30, 99)},
	} {
		out, ok := impl.PutItem(list, item(c.key, flat(-9), 15))
		if !ok || len(out) != len(c.want) {
			t.Fatalf("PutItem of the key %d = %v, %v", c.key, out, ok)
		}
		for i, key := range c.want {
			want := item(key, flat(key/10), key/10)
			if key == c.key {
				want = item(key, flat(-9), 15)
			}
			if !sameItem(out[i], want) {
				t.Errorf("PutItem of the key %d has %v at %d", c.key, out[i], i)
			}
		}
	}
	for _, empty := range [][]impl.Item{nil, {}} {
		x := item(99, flat(100), 15)
		if out, ok := impl.PutItem(empty, x); !ok || !sameItems(out, []impl.Item{x}) {
			t.Errorf("PutItem in an empty store = %v, %v", out, ok)
		}
	}
}

func TestPutItemFullStore(t *testing.T) {
	full := fullStore()
	for key := 1; key <= 99; key++ {
		x := item(key, vec(-100, 100, 0, key), key%16)
		i, found := slices.BinarySearchFunc(full, key, func(y impl.Item, key int) int { return y.Key - key })
		out, ok := impl.PutItem(full, x)
		if !found {
			if ok || len(out) != 0 {
				t.Errorf("PutItem of a 17th item with the key %d = %v, %v", key, out, ok)
			}
			continue
		}
		want := fullStore()
		want[i] = x
		if !ok || !sameItems(out, want) {
			t.Errorf("PutItem at the key %d of a full store = %v, %v", key, out, ok)
		}
	}
	almost := without(full, 15)
	if out, ok := impl.PutItem(almost, full[15]); !ok || !sameItems(out, full) {
		t.Errorf("PutItem of a 16th item = %v, %v", out, ok)
	}
}

func TestPutItemInvalid(t *testing.T) {
	for _, x := range badItems() {
		for _, list := range sampleStores() {
			if out, ok := impl.PutItem(list, x); ok || len(out) != 0 {
				t.Errorf("PutItem of %v = %v, %v", x, out, ok)
			}
		}
	}
	for _, list := range badStores() {
		for _, x := range []impl.Item{item(1, flat(0), 0), item(6, flat(0), 0), item(50, flat(0), 0)} {
			if out, ok := impl.PutItem(list, x); ok || len(out) != 0 {
				t.Errorf("PutItem in %v = %v, %v", list, out, ok)
			}
		}
	}
}

func TestDropItemOrdinary(t *testing.T) {
	for _, list := range sampleStores() {
		for i, x := range list {
			if out, ok := impl.DropItem(list, x.Key); !ok || !sameItems(out, without(list, i)) {
				t.Errorf("DropItem(%v, %d) = %v, %v", list, x.Key, out, ok)
			}
		}
	}
}

func TestDropItemInvalid(t *testing.T) {
	for _, list := range sampleStores() {
		has := itemsOf(list)
		for _, key := range append(badNumbers(), 0, 1, 4, 50, 99, 100) {
			if _, there := has[key]; there {
				continue
			}
			if out, ok := impl.DropItem(list, key); ok || len(out) != 0 {
				t.Errorf("DropItem(%v, %d) = %v, %v", list, key, out, ok)
			}
		}
	}
	for _, list := range badStores() {
		for _, x := range list {
			if out, ok := impl.DropItem(list, x.Key); ok || len(out) != 0 {
				t.Errorf("DropItem(%v, %d) = %v, %v", list, x.Key, out, ok)
			}
		}
	}
}

func TestGetItemInvalid(t *testing.T) {
	for _, list := range sampleStores() {
		for _, key := range append(badNumbers(), 0, 100) {
			if x, ok := impl.GetItem(list, key); ok || !zeroItem(x) {
				t.Errorf("GetItem(%v, %d) = %v, %v", list, key, x, ok)
			}
		}
	}
	for _, list := range badStores() {
		for _, y := range list {
			if x, ok := impl.GetItem(list, y.Key); ok || !zeroItem(x) {
				t.Errorf("GetItem(%v, %d) = %v, %v", list, y.Key, x, ok)
			}
		}
	}
}

func TestBoundsOfOrdinary(t *testing.T) {
	for _, c := range []struct {
		list      []impl.Item
		low, high []int
	}{
		{[]impl.Item{item(7, vec(1, -2, 3, -4), 0)}, vec(1, -2, 3, -4), vec(1, -2, 3, -4)},
		{[]impl.Item{item(1, flat(5), 0), item(2, vec(4, 5, 6, 7), 0)}, vec(4, 5, 5, 5), vec(5, 5, 6, 7)},
		{[]impl.Item{item(1, vec(-5, -1, -9, -3), 0), item(2, vec(-2, -8, -4, -6), 0)}, vec(-5, -8, -9, -6), vec(-2, -1, -4, -3)},
		{[]impl.Item{item(1, flat(100), 0), item(2, flat(0), 0), item(3, flat(-100), 0)}, flat(-100), flat(100)},
		{[]impl.Item{item(1, flat(0), 0), item(2, vec(1, -1, 2, -2), 0), item(3, vec(-1, 1, -2, 2), 0)}, vec(-1, -1, -2, -2), vec(1, 1, 2, 2)},
	} {
		low, high, ok := impl.BoundsOf(c.list)
		if !ok || !slices.Equal(low, c.low) || !slices.Equal(high, c.high) {
			t.Errorf("BoundsOf(%v) = %v, %v, %v", c.list, low, high, ok)
		}
	}
}

func TestBoundsOfInvalid(t *testing.T) {
	for _, list := range append(badStores(), nil, []impl.Item{}) {
		if low, high, ok := impl.BoundsOf(list); ok || len(low) != 0 || len(high) != 0 {
			t.Errorf("BoundsOf(%v) = %v, %v, %v", list, low, high, ok)
		}
	}
}

func TestStoresAreNotChanged(t *testing.T) {
	for _, sample := range sampleStores() {
		list := roomyItems(sample)
		want := cloneItems(list)
		x := item(50, roomy(flat(50)), 5)
		wantAt := slices.Clone(x.At[:cap(x.At)])
		impl.ValidStore(list)
		impl.BoundsOf(list)
		for key := 0; key <= 100; key++ {
			x.Key = key
			impl.PutItem(list, x)
			impl.DropItem(list, key)
			impl.GetItem(list, key)
		}
		if !sameMemory(list, want) || !slices.Equal(x.At[:cap(x.At)], wantAt) {
			t.Errorf("arguments are changed: %v, %v", list[:cap(list)], x.At[:cap(x.At)])
		}
	}
}

// checkFresh checks that a store shares no memory with another one, nor its vectors with each other or with some.
func checkFresh(t *testing.T, name string, out []impl.Item, list []impl.Item, more ...[]int) {
	t.Helper()
	if overlap(out, list) {
		t.Errorf("%s shares its items", name)
	}
	if overlapAny(vectorsOf(out)) {
		t.Errorf("%s has vectors that share memory", name)
	}
	for _, v := range vectorsOf(out) {
		for _, w := range append(vectorsOf(list[:cap(list)]), more...) {
			if overlap(v, w) {
				t.Errorf("%s shares the vector %v", name, v)
			}
		}
	}
}

func TestStoresAreFresh(t *testing.T) {
	for _, sample := range sampleStores() {
		list := roomyItems(sample)
		for key := 1; key <= 99; key++ {
			x := item(key, roomy(flat(50)), 5)
			if out, ok := impl.PutItem(list, x); ok {
				checkFresh(t, "PutItem", out, list, x.At)
			}
			if out, ok := impl.DropItem(list, key); ok {
				checkFresh(t, "DropItem", out, list)
			}
			if got, ok := impl.GetItem(list, key); ok {
				checkFresh(t, "GetItem", []impl.Item{got}, list)
			}
		}
		low, high, ok := impl.BoundsOf(list)
		if ok {
			checkFresh(t, "BoundsOf", []impl.Item{{At: low}, {At: high}}, list)
		}
	}
}

func TestStoresOfOneVectorAreFresh(t *testing.T) {
	at := flat(3)
	list := []impl.Item{item(1, at, 0), item(2, at, 0), item(3, at, 0)}
	put, _ := impl.PutItem(list, item(4, at, 0))
	drop, _ := impl.DropItem(list, 2)
	if len(put) != 4 || len(drop) != 2 {
		t.Fatalf("PutItem = %v, DropItem = %v", put, drop)
	}
	checkFresh(t, "PutItem", put, list)
	checkFresh(t, "DropItem", drop, list)
}
