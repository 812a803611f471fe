package tests

import (
	"slices"
	"testing"

	"loop.example/vectorstore/impl"
)

// sixPlanes returns as many planes as possible: the axes, and two that lie between them.
func sixPlanes() [][]int {
	return [][]int{vec(1, 0, 0, 0), vec(0, 1, 0, 0), vec(0, 0, 1, 0), vec(0, 0, 0, 1), vec(1, 1, 0, 0), vec(0, 0, 1, 1)}
}

// stepPlanes returns planes for vectors that end with 1: at stepAt(n) the first n bits are 1.
func stepPlanes() [][]int {
	var out [][]int
	for i := range impl.MaxPlanes {
		out = append(out, vec(1, 0, 0, -i-1))
	}
	return out
}

// stepAt returns the vector at a step of stepPlanes. It lies on the plane of this step.
func stepAt(step int) []int {
	return vec(step, 0, 0, 1)
}

// stepStore returns a store whose items are at steps, with the keys 1, 2, 3 and so on.
func stepStore(steps ...int) []impl.Item {
	out := line(steps...)
	for i := range out {
		out[i].At = stepAt(steps[i])
	}
	return out
}

// spreadPlanes returns valid planes with coordinates up to a size.
func spreadPlanes(seed uint64, many int, size int) [][]int {
	number := numbers(seed)
	var out [][]int
	for range many {
		out = append(out, vec(number(-size, size), number(-size, size), number(-size, size), number(-size, size)))
	}
	return out
}

// samplePlanes returns valid planes: from one to as many as possible, equal and opposite ones, zero and the limits.
func samplePlanes() [][][]int {
	out := [][][]int{
		{vec(1, 0, 0, 0)},
		{flat(0)},
		{flat(-100)},
		{vec(1, 0, 0, 0), vec(0, 1, 0, 0)},
		{vec(1, 0, 0, 0), vec(-1, 0, 0, 0)},
		{vec(0, 3, -2, 0), vec(0, -3, 2, 0), vec(0, 3, -2, 0)},
		{flat(1), flat(0), vec(100, -100, 100, -100), vec(1, -1, 0, 0)},
		{flat(100), flat(-100), vec(100, -100, 100, -100), vec(-100, 100, -100, 100), vec(100, 100, -100, -100), vec(100, 0, 0, 0)},
		{flat(0), flat(0), flat(0), flat(0), flat(0), flat(0)},
		sixPlanes(),
		stepPlanes(),
	}
	for i := range impl.MaxPlanes {
		out = append(out, spreadPlanes(uint64(20+i), i+1, 2), spreadPlanes(uint64(30+i), i+1, 100))
	}
	return out
}

// badPlanes returns planes that are not valid.
func badPlanes() [][][]int {
	return badVectorLists(impl.MaxPlanes)
}

// badBits returns numbers of bits in which no hashes can differ.
func badBits() []int {
	return append(badNumbers(), impl.MaxPlanes+1, impl.MaxPlanes+2, impl.MaxHash)
}

// badHashes returns numbers that are no hashes.
func badHashes() []int {
	return append(badNumbers(), impl.MaxHash+1, impl.MaxHash+2, 127, 128, 1<<32+1, -impl.MaxHash, -impl.MaxHash-1)
}

// productOf returns the sum of the products of coordinates.
func productOf(a []int, b []int) int {
	sum := 0
	for i := range a {
		sum += a[i] * b[i]
	}
	return sum
}

// wantHash returns the hash of a vector, from its lowest bit on.
func wantHash(planes [][]int, at []int) int {
	hash, bit := 0, 1
	for _, plane := range slices.Backward(planes) {
		if productOf(plane, at) > -1 {
			hash += bit
		}
		bit += bit
	}
	return hash
}

// wantApart returns in how many bits two numbers that are not negative differ.
func wantApart(a int, b int) int {
	apart := 0
	for a > 0 || b > 0 {
		if a%2 != b%2 {
			apart++
		}
		a, b = a/2, b/2
	}
	return apart
}

// wantBucket returns those items whose hashes differ from that of a vector in at most some bits.
func wantBucket(planes [][]int, list []impl.Item, at []int, bits int) []impl.Item {
	var out []impl.Item
	for _, x := range list {
		if wantApart(wantHash(planes, x.At), wantHash(planes, at)) <= bits {
			out = append(out, x)
		}
	}
	return out
}

// eachHash calls a function for all sample planes with many vectors, also such as lie on planes.
func eachHash(f func(planes [][]int, at []int)) {
	for _, planes := range samplePlanes() {
		for _, at := range sampleVectors() {
			f(planes, at)
		}
		for _, p := range planes {
			f(planes, p)
			f(planes, negated(p))
			f(planes, vec(p[1], -p[0], 0, 0))
			f(planes, vec(p[3], p[2], -p[1], -p[0]))
		}
	}
}

// eachHashed calls a function for all sample stores with all sample planes and some vectors.
func eachHashed(f func(planes [][]int, list []impl.Item, at []int)) {
	for _, list := range append(searchStores(), stepStore(3, 0, 6, 2, 5, 1, 4), stepStore(0, 0, 1, 1, 2, 2, 3, 3, 4, 4, 5, 5, 6, 6, -1, 7)) {
		for _, planes := range samplePlanes() {
			for _, at := range append(searchVectors(list), stepAt(3), planes[0]) {
				f(planes, list, at)
			}
		}
	}
}

// hashed returns HashOf, which has to have a bit for each plane and no others.
func hashed(t *testing.T, planes [][]int, at []int) int {
	t.Helper()
	hash := impl.HashOf(planes, at)
	if hash < 0 || hash >= 1<<len(planes) {
		t.Fatalf("HashOf(%v, %v) = %d", planes, at, hash)
	}
	return hash
}

// bitsApart returns BitsApart, which has to be a number of bits.
func bitsApart(t *testing.T, a int, b int) int {
	t.Helper()
	apart := impl.BitsApart(a, b)
	if apart < 0 || apart > impl.MaxPlanes {
		t.Fatalf("BitsApart(%d, %d) = %d", a, b, apart)
	}
	return apart
}
