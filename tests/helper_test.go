package tests

import (
	"math"
	"slices"

	"loop.example/vectorstore/impl"
)

// vec writes a vector shorter.
func vec(coords ...int) []int {
	return coords
}

// flat returns a vector whose coordinates are all the same.
func flat(c int) []int {
	return slices.Repeat([]int{c}, impl.Dims)
}

// negated returns a vector times -1.
func negated(v []int) []int {
	out := slices.Clone(v)
	for i := range out {
		out[i] = -out[i]
	}
	return out
}

// moved returns a vector with the same added to each coordinate.
func moved(v []int, by []int) []int {
	out := slices.Clone(v)
	for i := range out {
		out[i] += by[i]
	}
	return out
}

// numbers returns a source of numbers in low..high that are spread without a pattern and the same in each run.
func numbers(seed uint64) func(low int, high int) int {
	state := seed
	return func(low int, high int) int {
		state = state*6364136223846793005 + 1442695040888963407
		return low + int((state>>33)%uint64(high-low+1))
	}
}

// sampleVectors returns valid vectors: those at the limits, simple ones, and many spread ones.
func sampleVectors() [][]int {
	out := [][]int{
		flat(0), flat(100), flat(-100), flat(1), flat(-1),
		vec(100, -100, 100, -100), vec(-100, 100, -100, 100), vec(100, 0, 0, 0), vec(0, 0, 0, -100),
		vec(1, 2, 3, 4), vec(1, 0, 6, 4), vec(4, 3, 2, 1), vec(0, 0, 0, 1), vec(0, -1, 0, 0),
	}
	number := numbers(1)
	for _, size := range []int{2, 10, 100} {
		for range 6 {
			v := make([]int, impl.Dims)
			for i := range v {
				v[i] = number(-size, size)
			}
			out = append(out, v)
		}
	}
	return out
}

// badVectors returns vectors that are not valid.
func badVectors() [][]int {
	out := [][]int{nil, {}, {1}, {1, 2, 3}, {1, 2, 3, 4, 5}, {0, 0, 0, 0, 0, 0, 0, 0}}
	for i := range impl.Dims {
		for _, c := range []int{101, -101, math.MaxInt, math.MinInt, math.MinInt + 1} {
			v := flat(0)
			v[i] = c
			out = append(out, v)
		}
	}
	return out
}

// badNumbers returns numbers that are in no range of the document.
func badNumbers() []int {
	return []int{-1, -2, 1 << 32, math.MaxInt, math.MinInt}
}

// allKinds returns the kinds of distances.
func allKinds() []int {
	return []int{impl.DistSum, impl.DistMost, impl.DistSquare, impl.DistCount}
}

// item makes an item.
func item(key int, at []int, tags int) impl.Item {
	return impl.Item{Key: key, At: at, Tags: tags}
}

// spreadStore returns a valid store with some keys.
func spreadStore(seed uint64, keys ...int) []impl.Item {
	number := numbers(seed)
	out := make([]impl.Item, 0, len(keys))
	for _, key := range keys {
		at := vec(number(-100, 100), number(-100, 100), number(-100, 100), number(-100, 100))
		out = append(out, item(key, at, number(0, 15)))
	}
	return out
}

// fullStore returns a valid store with as many items as possible, and the keys 6, 12, 18 and so on.
func fullStore() []impl.Item {
	keys := make([]int, impl.MaxItems)
	for i := range keys {
		keys[i] = 6 * (i + 1)
	}
	return spreadStore(7, keys...)
}

// sampleStores returns valid stores.
func sampleStores() [][]impl.Item {
	return [][]impl.Item{
		nil,
		{},
		{item(1, flat(-100), 0)},
		{item(99, flat(100), 15)},
		{item(1, flat(100), 15), item(99, flat(-100), 0)},
		{item(5, flat(0), 3), item(6, flat(0), 3), item(7, flat(0), 3)},
		{item(1, vec(0, 0, 0, 0), 1), item(2, vec(3, 0, 0, 0), 3), item(3, vec(0, 4, 0, 0), 4), item(4, vec(10, 10, 0, 0), 0)},
		spreadStore(2, 2, 3, 5, 8, 13, 21, 34, 55, 89),
		spreadStore(3, 1, 2, 3, 4, 5, 6, 7, 8, 9, 10, 11, 12, 13, 14, 15),
		spreadStore(4, 84, 85, 86, 87, 88, 89, 90, 91, 92, 93, 94, 95, 96, 97, 98, 99),
		fullStore(),
	}
}

// badItems returns items that no store can have.
func badItems() []impl.Item {
	var out []impl.Item
	for _, key := range append(badNumbers(), 0, 100) {
		out = append(out, item(key, flat(1), 1))
	}
	for _, tags := range append(badNumbers(), 16) {
		out = append(out, item(50, flat(1), tags))
	}
	for _, v := range badVectors() {
		out = append(out, item(50, v, 1))
	}
	return append(out, impl.Item{})
}

// badStores returns stores that are not valid.
func badStores() [][]impl.Item {
	var out [][]impl.Item
	for _, x := range badItems() {
		out = append(out, []impl.Item{x})
		for _, i := range vec(0, 8, impl.MaxItems-1) {
			list := fullStore()
			key := x.Key
			if key == 50 { // the key is not what is wrong, so its place may not be either
				key = list[i].Key
			}
			list[i] = item(key, x.At, x.Tags)
			out = append(out, list)
		}
	}
	return append(out,
		[]impl.Item{item(2, flat(0), 0), item(2, flat(0), 0)},
		[]impl.Item{item(2, flat(0), 0), item(1, flat(0), 0)},
		[]impl.Item{item(1, flat(0), 0), item(3, flat(0), 0), item(2, flat(0), 0)},
		append(fullStore(), item(97, flat(0), 0)),
		slices.Repeat([]impl.Item{item(1, flat(0), 0)}, 40),
	)
}

// without returns a store without the item at an index.
func without(list []impl.Item, i int) []impl.Item {
	return slices.Concat(list[:i], list[i+1:])
}

// itemsOf returns the items of a store by their keys.
func itemsOf(list []impl.Item) map[int]impl.Item {
	out := map[int]impl.Item{}
	for _, x := range list {
		out[x.Key] = x
	}
	return out
}

// cloneItems returns items with memory of their own, as many as fit into the capacity.
func cloneItems(list []impl.Item) []impl.Item {
	out := slices.Clone(list[:cap(list)])
	for i := range out {
		out[i].At = slices.Clone(out[i].At[:cap(out[i].At)])[:len(out[i].At)]
	}
	return out[:len(list)]
}

// roomy returns a copy of a list with numbers in its spare capacity.
func roomy(list []int) []int {
	return append(slices.Clone(list), 71, 72, 73, 74, 75)[:len(list)]
}

// roomyItems returns a copy of a store with items in its spare capacity, and numbers in that of its vectors.
func roomyItems(list []impl.Item) []impl.Item {
	out := append(slices.Clone(list), item(71, flat(7), 1), item(72, flat(8), 2))
	for i := range out {
		out[i].At = roomy(out[i].At)
	}
	return out[:len(list)]
}

// sameItem reports whether two items are equal.
func sameItem(a impl.Item, b impl.Item) bool {
	return a.Key == b.Key && a.Tags == b.Tags && slices.Equal(a.At, b.At)
}

// sameItems reports whether two stores are equal.
func sameItems(a []impl.Item, b []impl.Item) bool {
	return slices.EqualFunc(a, b, sameItem)
}

// sameMemory reports whether two stores are equal as far as their capacities go.
func sameMemory(a []impl.Item, b []impl.Item) bool {
	return slices.EqualFunc(a[:cap(a)], b[:cap(b)], func(x impl.Item, y impl.Item) bool {
		return sameItem(x, y) && slices.Equal(x.At[:cap(x.At)], y.At[:cap(y.At)])
	})
}

// zeroItem reports whether an item is the zero value, where nil and an empty vector are the same.
func zeroItem(x impl.Item) bool {
	return sameItem(x, impl.Item{})
}

// overlap reports whether two slices share memory, including spare capacity.
func overlap[T any](a []T, b []T) bool {
	a, b = a[:cap(a)], b[:cap(b)]
	for i := range a {
		for j := range b {
			if &a[i] == &b[j] {
				return true
			}
		}
	}
	return false
}

// overlapAny reports whether any two slices of a list share memory.
func overlapAny(list [][]int) bool {
	for i, a := range list {
		for _, b := range list[:i] {
			if overlap(a, b) {
				return true
			}
		}
	}
	return false
}

// vectorsOf returns the vectors of items.
func vectorsOf(list []impl.Item) [][]int {
	var out [][]int
	for _, x := range list {
		out = append(out, x.At)
	}
	return out
}
