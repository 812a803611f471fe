package tests

import (
	"math"
	"slices"
	"testing"

	"loop.example/vectorstore/impl"
)

// allCodes is the number of codes of a book.
const allCodes = impl.Codes * impl.Codes

// side returns halves of vectors, from two coordinates for each.
func side(coords ...int) [][]int {
	var out [][]int
	for i := 0; i+1 < len(coords); i += 2 {
		out = append(out, vec(coords[i], coords[i+1]))
	}
	return out
}

// book makes a book.
func book(left [][]int, right [][]int) impl.Book {
	return impl.Book{Left: left, Right: right}
}

// plainBook returns a valid book with four different halves on each side.
func plainBook() impl.Book {
	return book(side(0, 0, 10, 0, 0, 10, 10, 10), side(0, 0, 5, 5, -5, -5, 0, 9))
}

// limitBook returns a valid book with halves in the corners of what is valid.
func limitBook() impl.Book {
	return book(side(100, 100, -100, -100, 100, -100, -100, 100), side(-100, 100, 100, -100, -100, -100, 100, 100))
}

// spreadBook returns a valid book with coordinates up to a size.
func spreadBook(seed uint64, size int) impl.Book {
	number := numbers(seed)
	var coords []int
	for range 4 * impl.Codes {
		coords = append(coords, number(-size, size))
	}
	return book(side(coords[:2*impl.Codes]...), side(coords[2*impl.Codes:]...))
}

// sampleBooks returns valid books: with equal halves, halves as far from the middle, and halves at the limits.
func sampleBooks() []impl.Book {
	return []impl.Book{
		plainBook(),
		limitBook(),
		book(side(0, 0, 0, 0, 0, 0, 0, 0), side(0, 0, 0, 0, 0, 0, 0, 0)),
		book(side(1, 1, 1, 1, 2, 2, 2, 2), side(2, 2, 1, 1, 2, 2, 1, 1)),
		book(side(7, -3, 0, 0, 7, -3, 0, 0), side(50, 50, -50, -50, 50, -50, 50, 50)),
		book(side(5, 0, -5, 0, 0, 5, 3, 4), side(0, -5, 4, 3, -3, 4, 5, 0)),
		book(side(100, 100, 100, 100, 100, 100, 100, 100), side(-100, -100, -100, -100, -100, -100, -100, -100)),
		book(side(100, 99, 100, 100, -100, -99, 98, 100), side(1, 0, 0, 1, -1, 0, 0, -1)),
		spreadBook(11, 1), spreadBook(12, 10), spreadBook(13, 100), spreadBook(14, 100),
	}
}

// badSides returns halves that no side of a book can have: too few or too many, of another length, or with a coordinate out of range.
func badSides() [][][]int {
	out := [][][]int{nil, {}, side(1, 2), side(1, 2, 3, 4, 5, 6), side(1, 2, 3, 4, 5, 6, 7, 8, 9, 10), slices.Repeat(side(1, 2), 4*impl.Codes)}
	halves := [][]int{nil, {}, {1}, {1, 2, 3}, {1, 2, 3, 4}, {0, 0, 0, 0, 0, 0, 0, 0}}
	for _, c := range []int{101, -101, math.MaxInt, math.MinInt, math.MinInt + 1} {
		halves = append(halves, vec(c, 0), vec(0, c))
	}
	for _, bad := range halves {
		for i := range impl.Codes {
			list := side(1, 2, 3, 4, 5, 6, 7, 8)
			list[i] = bad
			out = append(out, list)
		}
	}
	return append(out, append(side(1, 2, 3, 4, 5, 6, 7, 8), nil))
}

// badBooks returns books one or both sides of which are not valid.
func badBooks() []impl.Book {
	good := side(1, 2, 3, 4, 5, 6, 7, 8)
	out := []impl.Book{{}}
	for _, bad := range badSides() {
		out = append(out, book(bad, good), book(good, bad), book(bad, bad))
	}
	// The halves of both sides together are as many as those of a valid book.
	return append(out, book(good[:3], side(0, 0, 1, 1, 2, 2, 3, 3, 4, 4)), book(side(0, 0, 1, 1, 2, 2, 3, 3, 4, 4), good[:3]), book(side(0, 0, 1, 1, 2, 2, 3, 3, 4, 4, 5, 5, 6, 6, 7, 7), nil))
}

// badCodes returns numbers that are no codes.
func badCodes() []int {
	return append(badNumbers(), allCodes, allCodes+1, 100)
}

// wantVectors returns the vectors of all codes of a book, in order.
func wantVectors(b impl.Book) [][]int {
	var out [][]int
	for _, left := range b.Left {
		for _, right := range b.Right {
			out = append(out, slices.Concat(left, right))
		}
	}
	return out
}

// wantCode returns the first one of the codes whose vectors are nearest to a vector, found from the last one on.
func wantCode(b impl.Book, at []int) int {
	vectors := wantVectors(b)
	code := len(vectors) - 1
	for i, v := range slices.Backward(vectors) {
		if squares(v, at) <= squares(vectors[code], at) {
			code = i
		}
	}
	return code
}

// wantDecoded returns a store with the vectors of the codes of its items.
func wantDecoded(b impl.Book, list []impl.Item) []impl.Item {
	vectors := wantVectors(b)
	out := slices.Clone(list)
	for i, x := range out {
		out[i].At = vectors[wantCode(b, x.At)]
	}
	return out
}

// wantReranked returns as hits those items whose codes are the nearest ones, in the order of their own distances.
func wantReranked(b impl.Book, list []impl.Item, at []int, many int) []impl.Hit {
	near := wantHits(wantDecoded(b, list), impl.DistSquare, at)
	near = near[:min(many, len(near))]
	var items []impl.Item
	for _, x := range list {
		if slices.ContainsFunc(near, func(h impl.Hit) bool { return h.Key == x.Key }) {
			items = append(items, x)
		}
	}
	return wantHits(items, impl.DistSquare, at)
}

// eachCode calls a function for all sample books with many vectors, those of the codes and ones next to them among them.
func eachCode(f func(b impl.Book, at []int)) {
	for _, b := range sampleBooks() {
		for _, at := range sampleVectors() {
			f(b, at)
		}
		for _, at := range wantVectors(b) {
			f(b, at)
			if next := moved(at, vec(1, -2, 0, 1)); impl.ValidVector(next) {
				f(b, next)
			}
		}
	}
}

// eachCoded calls a function for all sample stores with all sample books and some vectors.
func eachCoded(f func(b impl.Book, list []impl.Item, at []int)) {
	for _, list := range searchStores() {
		for _, b := range sampleBooks() {
			for _, at := range append(searchVectors(list), wantVectors(b)[6]) {
				f(b, list, at)
			}
		}
	}
}

// badArguments calls a function for what a search needs (a book or planes), a store and a vector, one or more of which are not valid.
func badArguments[T any](good []T, bad []T, f func(x T, list []impl.Item, at []int)) {
	for _, list := range sampleStores() {
		for _, x := range bad {
			f(x, list, vec(1, 2, 0, 0))
		}
		for _, x := range good {
			for _, at := range badVectors() {
				f(x, list, at)
			}
		}
	}
	for _, list := range badStores() {
		for _, x := range good {
			f(x, list, vec(1, 2, 0, 0))
		}
		f(bad[0], list, nil)
	}
}

// roomyBook returns a copy of a book with numbers and vectors in all spare capacities.
func roomyBook(b impl.Book) impl.Book {
	return book(roomyVectors(b.Left), roomyVectors(b.Right))
}

// wholeBook returns all vectors of a book as far as the capacities go.
func wholeBook(b impl.Book) [][]int {
	return append(wholeMemory(b.Left), wholeMemory(b.Right)...)
}

// encoded returns EncodeVector, which has to be a code.
func encoded(t *testing.T, b impl.Book, at []int) int {
	t.Helper()
	code := impl.EncodeVector(b, at)
	if code < 0 || code >= allCodes {
		t.Fatalf("EncodeVector(%v, %v) = %d", b, at, code)
	}
	return code
}

// decoded returns DecodeVector, which has to be a valid vector.
func decoded(t *testing.T, b impl.Book, code int) []int {
	t.Helper()
	at := impl.DecodeVector(b, code)
	if !impl.ValidVector(at) {
		t.Fatalf("DecodeVector(%v, %d) = %v", b, code, at)
	}
	return at
}

// codeDistances returns CodeDistances, which has to have a distance for each code.
func codeDistances(t *testing.T, b impl.Book, at []int) []int {
	t.Helper()
	out := impl.CodeDistances(b, at)
	if len(out) != allCodes {
		t.Fatalf("CodeDistances(%v, %v) = %v", b, at, out)
	}
	return out
}

// codeNearest returns CodeNearest, which has to have as many hits as wanted, or all.
func codeNearest(t *testing.T, b impl.Book, list []impl.Item, at []int, k int) []impl.Hit {
	t.Helper()
	out := impl.CodeNearest(b, list, at, k)
	if len(out) != min(k, len(list)) {
		t.Fatalf("CodeNearest(%v, %v, %v, %d) = %v", b, list, at, k, out)
	}
	return out
}

// reranked returns RerankNearest, which has to have as many hits as wanted, or as many as there are.
func reranked(t *testing.T, b impl.Book, list []impl.Item, at []int, many int, k int) []impl.Hit {
	t.Helper()
	out := impl.RerankNearest(b, list, at, many, k)
	if len(out) != min(many, k, len(list)) {
		t.Fatalf("RerankNearest(%v, %v, %v, %d, %d) = %v", b, list, at, many, k, out)
	}
	return out
}
