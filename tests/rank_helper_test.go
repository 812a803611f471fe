package tests

import (
	"math"
	"slices"

	"loop.example/vectorstore/impl"
)

// hitRow returns hits with some keys, whose distances begin with a number and grow by a step.
func hitRow(from int, step int, keys ...int) []impl.Hit {
	var out []impl.Hit
	for i, key := range keys {
		out = append(out, hit(key, from+i*step))
	}
	return out
}

// keyRow returns as many keys as a list of hits can have, which begin with a number and grow by a step.
func keyRow(from int, step int) []int {
	var out []int
	for i := range impl.MaxItems {
		out = append(out, from+i*step)
	}
	return out
}

// spreadHits returns valid hits with different keys in 1..30 and distances up to a number.
func spreadHits(seed uint64, size int, far int) []impl.Hit {
	number := numbers(seed)
	best := map[int]int{}
	for len(best) < size {
		best[number(1, 30)] = number(0, far)
	}
	return inOrder(best)
}

// inOrder returns keys with their distances as hits, in the order of the distances and then of the keys.
func inOrder(best map[int]int) []impl.Hit {
	var out []impl.Hit
	for key, dist := range best {
		i := 0
		for i < len(out) && (out[i].Dist < dist || out[i].Dist == dist && out[i].Key < key) {
			i++
		}
		out = slices.Insert(out, i, hit(key, dist))
	}
	return out
}

// sampleHits returns valid lists of hits: none, one and as many as possible, near, far and as far.
func sampleHits() [][]impl.Hit {
	out := [][]impl.Hit{
		nil,
		{},
		{hit(1, 0)},
		{hit(99, impl.FarAway)},
		{hit(7, 3)},
		{hit(7, 4)},
		{hit(1, 0), hit(99, impl.FarAway)},
		{hit(99, 0), hit(1, impl.FarAway)},
		{hit(2, 5), hit(7, 5), hit(1, 6)},
		hitRow(0, 0, keyRow(1, 1)...),
		hitRow(impl.FarAway, 0, keyRow(84, 1)...),
		hitRow(impl.FarAway-15, 1, keyRow(99, -1)...),
		hitRow(0, 1, keyRow(16, -1)...),
		hitRow(5, 0, keyRow(2, 2)...),
		hitRow(5, 0, keyRow(1, 2)...),
	}
	for i, size := range vec(2, 3, 5, 9, 15, 16) {
		out = append(out, spreadHits(uint64(40+i), size, 2), spreadHits(uint64(50+i), size, 20), spreadHits(uint64(60+i), size, impl.FarAway))
	}
	for _, kind := range allKinds() {
		out = append(out, wantHits(fullStore(), kind, flat(0)))
	}
	return out
}

// changedHits returns a copy of hits with another one at an index.
func changedHits(list []impl.Hit, i int, h impl.Hit) []impl.Hit {
	out := slices.Clone(list)
	out[i] = h
	return out
}

// badHits returns lists of hits that are not valid, most of them for one reason alone.
func badHits() [][]impl.Hit {
	near, far := hitRow(0, 0, keyRow(2, 1)...), hitRow(impl.FarAway, 0, keyRow(83, 1)...)
	last := impl.MaxItems - 1
	out := [][]impl.Hit{
		// The same key twice: as far, and farther away, side by side and apart.
		{hit(2, 5), hit(2, 5)},
		{hit(2, 5), hit(2, 6)},
		{hit(2, 5), hit(1, 6), hit(2, 7)},
		changedHits(hitRow(0, 1, keyRow(1, 1)...), last, hit(1, last)),
		changedHits(hitRow(0, 1, keyRow(1, 1)...), 0, hit(16, 0)),
		// The wrong order: of distances, and of keys with equal ones.
		{hit(1, 1), hit(2, 0)},
		{hit(2, 1), hit(1, 1)},
		{hit(1, 0), hit(3, impl.FarAway), hit(2, impl.FarAway)},
		changedHits(near, last, hit(1, 0)),
		changedHits(hitRow(3, 3, keyRow(1, 1)...), last, hit(99, 3*last-1)),
		changedHits(hitRow(3, 3, keyRow(1, 1)...), 0, hit(99, 7)),
		// Too many.
		hitRow(0, 1, append(keyRow(1, 1), 17)...),
		hitRow(0, 0, append(keyRow(1, 1), 99)...),
		hitRow(0, 1, append(keyRow(1, 1), keyRow(17, 1)...)...),
		// Keys and distances just outside, where the order is right.
		changedHits(near, 0, hit(0, 0)),
		changedHits(far, last, hit(100, impl.FarAway)),
		changedHits(near, 0, hit(2, -1)),
		changedHits(far, last, hit(98, impl.FarAway+1)),
		{hit(0, 0)}, {hit(100, impl.FarAway)}, {hit(1, -1)}, {hit(99, impl.FarAway+1)}, {{}},
		{hit(1, 3), hit(2, impl.FarAway+1)}, {hit(1, -1), hit(2, 3)}, {hit(0, 3), hit(2, 3)}, {hit(2, 3), hit(100, 3)},
	}
	for _, bad := range badNumbers() {
		out = append(out, []impl.Hit{hit(bad, 5)}, []impl.Hit{hit(5, bad)}, []impl.Hit{hit(5, min(bad, 5)), hit(6, max(bad, 5))})
	}
	return append(out, []impl.Hit{hit(1, math.MinInt), hit(2, math.MaxInt)}, []impl.Hit{hit(5, 3), hit(math.MinInt, 4)})
}

// eachTwoHits calls a function for all pairs of sample lists.
func eachTwoHits(f func(a []impl.Hit, b []impl.Hit)) {
	for _, a := range sampleHits() {
		for _, b := range sampleHits() {
			f(a, b)
		}
	}
}

// badTwoHits calls a function for pairs of lists, the first one, the second one or both of which are not valid.
func badTwoHits(f func(a []impl.Hit, b []impl.Hit)) {
	for _, bad := range badHits() {
		for _, good := range sampleHits() {
			f(bad, good)
			f(good, bad)
		}
		f(bad, bad)
		f(bad, badHits()[0])
	}
}

// wantMerged returns the hits of two lists, of each key the nearest one.
func wantMerged(a []impl.Hit, b []impl.Hit) []impl.Hit {
	best := map[int]int{}
	for _, h := range slices.Concat(a, b) {
		if dist, there := best[h.Key]; !there || h.Dist < dist {
			best[h.Key] = h.Dist
		}
	}
	return inOrder(best)
}

// wantScore returns the score of a key in a list.
func wantScore(list []impl.Hit, key int) int {
	for i, h := range list {
		if h.Key == key {
			return 100000 / (61 + i)
		}
	}
	return 0
}

// wantFused returns the keys of two lists by the sums of their scores: as hits with the scores that are missing as distances.
func wantFused(a []impl.Hit, b []impl.Hit) []int {
	missing := map[int]int{}
	for _, h := range slices.Concat(a, b) {
		missing[h.Key] = impl.RankTop - wantScore(a, h.Key) - wantScore(b, h.Key)
	}
	return hitKeys(inOrder(missing))
}

// commonKeys returns how many keys of a list another one has.
func commonKeys(a []impl.Hit, b []impl.Hit) int {
	many := 0
	for _, h := range a {
		if slices.Contains(hitKeys(b), h.Key) {
			many++
		}
	}
	return many
}

// roomyHits returns a copy of hits with others in its spare capacity.
func roomyHits(list []impl.Hit) []impl.Hit {
	return append(slices.Clone(list), hit(71, 1), hit(72, 2), hit(73, 3))[:len(list)]
}
