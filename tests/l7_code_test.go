package tests

import (
	"slices"
	"testing"

	"loop.example/vectorstore/impl"
)

func TestCodeConstants(t *testing.T) {
	if impl.Codes != 4 {
		t.Errorf("Codes = %d", impl.Codes)
	}
}

func TestValidBookOrdinary(t *testing.T) {
	for _, b := range sampleBooks() {
		if !impl.ValidBook(b) {
			t.Errorf("ValidBook(%v) = false", b)
		}
	}
	// The limit itself is valid at each place.
	for i := range 2 * impl.Codes {
		for _, c := range vec(-100, 100) {
			coords := make([]int, 2*impl.Codes)
			coords[i] = c
			if !impl.ValidBook(book(side(coords...), plainBook().Right)) || !impl.ValidBook(book(plainBook().Left, side(coords...))) {
				t.Errorf("ValidBook with %v is false", coords)
			}
		}
	}
}

func TestValidBookInvalid(t *testing.T) {
	for _, b := range badBooks() {
		if impl.ValidBook(b) {
			t.Errorf("ValidBook(%v) = true", b)
		}
	}
}

func TestEncodeVectorOrdinary(t *testing.T) {
	for _, c := range []struct {
		at   []int
		want int
	}{
		{vec(9, 1, 4, 4), 5},
		{vec(0, 0, 0, 0), 0},
		{vec(10, 10, 0, 9), 15},
		{vec(10, 0, 0, 0), 4},
		{vec(0, 10, 0, 0), 8},
		{vec(0, 0, 5, 5), 1},
		{vec(0, 0, -5, -5), 2},
		{vec(0, 0, 0, 9), 3},
		{vec(9, 8, -3, -4), 14},
		{vec(2, 9, 1, 8), 11},
		{vec(0, 0, 2, 7), 3},
		{vec(0, 0, 3, 3), 1},
		{vec(-90, 100, 100, -90), 9},
		// Halves as far from several ones of the book get the first one.
		{vec(5, 5, 0, 0), 0},
		{vec(10, 5, 0, 0), 4},
		{vec(5, 10, 0, 0), 8},
		{vec(0, 0, 5, 0), 0},
		{vec(5, 4, -5, 0), 0},
	} {
		if got := impl.EncodeVector(plainBook(), c.at); got != c.want {
			t.Errorf("EncodeVector(%v, %v) = %d, not %d", plainBook(), c.at, got, c.want)
		}
	}
}

func TestEncodeVectorSquares(t *testing.T) {
	// DistSum and DistCount would choose (9, 0), and DistMost (6, 6).
	first, second := side(9, 0, 6, 6, 7, 4, 8, 8), side(8, 8, 7, 4, 6, 6, 9, 0)
	if got := impl.EncodeVector(book(first, second), flat(0)); got != 9 {
		t.Errorf("EncodeVector(%v, %v) = %d", first, second, got)
	}
	if got := impl.EncodeVector(book(second, first), flat(0)); got != 6 {
		t.Errorf("EncodeVector(%v, %v) = %d", second, first, got)
	}
}

func TestEncodeVectorEqualHalves(t *testing.T) {
	far := side(-90, 80, -90, 80, -90, 80, -90, 80)
	for i := range impl.Codes {
		for j := range impl.Codes {
			halves := slices.Clone(far)
			halves[i], halves[j] = vec(3, -4), vec(3, -4)
			for code, want := range vec(min(i, j), impl.Codes*min(i, j)) {
				b := book(far, halves)
				if code == 1 {
					b = book(halves, far)
				}
				if got := impl.EncodeVector(b, vec(3, -4, 3, -4)); got != want {
					t.Errorf("EncodeVector(%v) = %d, not %d", b, got, want)
				}
			}
		}
	}
	for _, v := range sampleVectors() {
		same := book(slices.Repeat([][]int{v[:2]}, impl.Codes), slices.Repeat([][]int{v[2:]}, impl.Codes))
		for _, at := range [][]int{v, flat(-100), flat(100)} {
			if got := impl.EncodeVector(same, at); got != 0 {
				t.Errorf("EncodeVector(%v, %v) = %d", same, at, got)
			}
		}
	}
}

func TestEncodeVectorSameDistance(t *testing.T) {
	circle := side(5, 0, -4, 3, 0, -5, -3, -4)
	for range impl.Codes {
		if got := impl.EncodeVector(book(circle, circle), flat(0)); got != 0 {
			t.Errorf("EncodeVector(%v) of the middle = %d", circle, got)
		}
		circle = append(circle[1:], circle[0])
	}
	late := side(6, 0, 5, 5, -3, 4, 4, -3)
	if got := impl.EncodeVector(book(late, circle), flat(0)); got != 8 {
		t.Errorf("EncodeVector with two of the nearest behind farther ones = %d", got)
	}
	if got := impl.EncodeVector(book(circle, late), flat(0)); got != 2 {
		t.Errorf("EncodeVector with two of the nearest behind farther ones = %d", got)
	}
}

func TestEncodeVectorLimits(t *testing.T) {
	b := limitBook()
	for code, v := range wantVectors(b) {
		if got := impl.EncodeVector(b, v); got != code {
			t.Errorf("EncodeVector(%v, %v) = %d, not %d", b, v, got, code)
		}
	}
	far := side(100, 100, 100, 100, 100, 100, 100, 99)
	if got := impl.EncodeVector(book(far, far), flat(-100)); got != 15 {
		t.Errorf("EncodeVector of the farthest vector = %d", got)
	}
	if got := impl.EncodeVector(book(far[:4:4], side(100, 100, 100, 100, 100, 100, 100, 100)), flat(-100)); got != 12 {
		t.Errorf("EncodeVector of the farthest vector = %d", got)
	}
}

func TestEncodeVectorAll(t *testing.T) {
	seen := map[int]bool{}
	eachCode(func(b impl.Book, at []int) {
		got, want := impl.EncodeVector(b, at), wantCode(b, at)
		if got != want {
			t.Errorf("EncodeVector(%v, %v) = %d, not %d", b, at, got, want)
		}
		seen[got] = true
	})
	if len(seen) != allCodes {
		t.Errorf("only the codes %v are there", seen)
	}
}

func TestEncodeVectorInvalid(t *testing.T) {
	check := func(b impl.Book, at []int) {
		if got := impl.EncodeVector(b, at); got != -1 {
			t.Errorf("EncodeVector(%v, %v) = %d", b, at, got)
		}
	}
	for _, b := range badBooks() {
		check(b, flat(0))
		check(b, vec(1, 2, 3, 4))
		check(b, nil)
	}
	for _, b := range sampleBooks() {
		for _, at := range badVectors() {
			check(b, at)
		}
	}
}

func TestDecodeVectorOrdinary(t *testing.T) {
	want := [][]int{
		vec(0, 0, 0, 0), vec(0, 0, 5, 5), vec(0, 0, -5, -5), vec(0, 0, 0, 9),
		vec(10, 0, 0, 0), vec(10, 0, 5, 5), vec(10, 0, -5, -5), vec(10, 0, 0, 9),
		vec(0, 10, 0, 0), vec(0, 10, 5, 5), vec(0, 10, -5, -5), vec(0, 10, 0, 9),
		vec(10, 10, 0, 0), vec(10, 10, 5, 5), vec(10, 10, -5, -5), vec(10, 10, 0, 9),
	}
	for code, at := range want {
		if got := impl.DecodeVector(plainBook(), code); !slices.Equal(got, at) {
			t.Errorf("DecodeVector(%v, %d) = %v, not %v", plainBook(), code, got, at)
		}
	}
	for _, b := range sampleBooks() {
		for code, at := range wantVectors(b) {
			if got := impl.DecodeVector(b, code); !slices.Equal(got, at) {
				t.Errorf("DecodeVector(%v, %d) = %v, not %v", b, code, got, at)
			}
		}
	}
}

func TestDecodeVectorInvalid(t *testing.T) {
	check := func(b impl.Book, code int) {
		if got := impl.DecodeVector(b, code); len(got) != 0 {
			t.Errorf("DecodeVector(%v, %d) = %v", b, code, got)
		}
	}
	for _, b := range badBooks() {
		for code := range allCodes {
			check(b, code)
		}
		check(b, -1)
		check(b, allCodes)
	}
	for _, b := range sampleBooks() {
		for _, code := range badCodes() {
			check(b, code)
		}
	}
}

func TestCodeDistancesOrdinary(t *testing.T) {
	for _, c := range []struct {
		b    impl.Book
		at   []int
		want []int
	}{
		{plainBook(), vec(9, 1, 4, 4), vec(114, 84, 244, 123, 34, 4, 164, 43, 194, 164, 324, 203, 114, 84, 244, 123)},
		{plainBook(), flat(0), vec(0, 50, 50, 81, 100, 150, 150, 181, 100, 150, 150, 181, 200, 250, 250, 281)},
		{plainBook(), vec(0, 10, 0, -1), vec(101, 161, 141, 200, 201, 261, 241, 300, 1, 61, 41, 100, 101, 161, 141, 200)},
		{limitBook(), flat(100), vec(40000, 40000, 80000, 0, 120000, 120000, 160000, 80000, 80000, 80000, 120000, 40000, 80000, 80000, 120000, 40000)},
		{sampleBooks()[2], flat(3), slices.Repeat(vec(36), allCodes)},
	} {
		if got := impl.CodeDistances(c.b, c.at); !slices.Equal(got, c.want) {
			t.Errorf("CodeDistances(%v, %v) = %v, not %v", c.b, c.at, got, c.want)
		}
	}
}

func TestCodeDistancesAll(t *testing.T) {
	eachCode(func(b impl.Book, at []int) {
		var want []int
		for _, v := range wantVectors(b) {
			want = append(want, squares(v, at))
		}
		if got := impl.CodeDistances(b, at); !slices.Equal(got, want) {
			t.Errorf("CodeDistances(%v, %v) = %v, not %v", b, at, got, want)
		}
	})
}

func TestCodeDistancesInvalid(t *testing.T) {
	check := func(b impl.Book, at []int) {
		if got := impl.CodeDistances(b, at); len(got) != 0 {
			t.Errorf("CodeDistances(%v, %v) = %v", b, at, got)
		}
	}
	for _, b := range badBooks() {
		check(b, flat(0))
		check(b, nil)
	}
	for _, b := range sampleBooks() {
		for _, at := range badVectors() {
			check(b, at)
		}
	}
}

// codeCase is a search with what all codes find, from the nearest one on.
type codeCase struct {
	b    impl.Book
	list []impl.Item
	at   []int
	want []impl.Hit
}

// codeCases returns searches in stores with no item, one item and many, and with equal distances of codes.
func codeCases() []codeCase {
	list := []impl.Item{item(1, flat(0), 1), item(2, vec(3, 0, 0, 0), 3), item(3, vec(0, 4, 0, 0), 4), item(4, vec(10, 10, 0, 0), 0)}
	full := make([]impl.Hit, 0, impl.MaxItems)
	for i := range impl.MaxItems {
		full = append(full, hit(3+5*i, 40000))
	}
	return []codeCase{
		{plainBook(), list, flat(0), []impl.Hit{hit(1, 0), hit(2, 0), hit(3, 0), hit(4, 200)}},
		// The item with the key 2 is at the vector, but its code is not nearer than that of the one with the key 1.
		{plainBook(), list, vec(3, 0, 0, 0), []impl.Hit{hit(1, 9), hit(2, 9), hit(3, 9), hit(4, 149)}},
		{plainBook(), list, vec(9, 8, 0, 0), []impl.Hit{hit(4, 5), hit(1, 145), hit(2, 145), hit(3, 145)}},
		{plainBook(), line(4, 6, 5, -9, 30), vec(8, 0, 0, 0), []impl.Hit{hit(2, 4), hit(5, 4), hit(1, 64), hit(3, 64), hit(4, 64)}},
		{plainBook(), nil, vec(8, 0, 0, 0), nil},
		{plainBook(), []impl.Item{}, vec(8, 0, 0, 0), nil},
		{plainBook(), []impl.Item{item(99, vec(10, 9, 0, -40), 15)}, vec(10, 10, -5, 5), []impl.Hit{hit(99, 100)}},
		{limitBook(), []impl.Item{item(99, flat(-100), 15)}, flat(100), []impl.Hit{hit(99, 160000)}},
		// All 16 codes are those of the corners, as far from the middle.
		{limitBook(), corners(10), flat(0), full},
	}
}

func TestCodeNearestOrdinary(t *testing.T) {
	for _, c := range codeCases() {
		for k := 1; k <= impl.MaxItems; k++ {
			if got := impl.CodeNearest(c.b, c.list, c.at, k); !slices.Equal(got, c.want[:min(k, len(c.want))]) {
				t.Errorf("CodeNearest(%v, %v, %v, %d) = %v, not the first of %v", c.b, c.list, c.at, k, got, c.want)
			}
		}
	}
}

func TestCodeNearestAll(t *testing.T) {
	other := 0
	eachCoded(func(b impl.Book, list []impl.Item, at []int) {
		want := wantHits(wantDecoded(b, list), impl.DistSquare, at)
		if !slices.Equal(want, wantHits(list, impl.DistSquare, at)) {
			other++
		}
		for _, k := range vec(1, 2, 5, impl.MaxItems) {
			if got := impl.CodeNearest(b, list, at, k); !slices.Equal(got, want[:min(k, len(want))]) {
				t.Errorf("CodeNearest(%v, %v, %v, %d) = %v, not the first of %v", b, list, at, k, got, want)
			}
		}
	})
	if other < 500 {
		t.Errorf("only %d searches find others than Nearest", other)
	}
}

func TestCodeNearestInvalid(t *testing.T) {
	check := func(b impl.Book, list []impl.Item, at []int, k int) {
		if got := impl.CodeNearest(b, list, at, k); len(got) != 0 {
			t.Errorf("CodeNearest(%v, %v, %v, %d) = %v", b, list, at, k, got)
		}
	}
	badArguments(sampleBooks(), badBooks(), func(b impl.Book, list []impl.Item, at []int) {
		check(b, list, at, 1)
		check(b, list, at, impl.MaxItems)
	})
	for _, k := range badCounts() {
		for _, list := range sampleStores() {
			for _, b := range sampleBooks() {
				check(b, list, flat(1), k)
			}
		}
		check(impl.Book{}, badStores()[0], nil, k)
	}
}

func TestRerankNearestOrdinary(t *testing.T) {
	list := []impl.Item{item(1, flat(0), 1), item(2, vec(3, 0, 0, 0), 3), item(3, vec(0, 4, 0, 0), 4), item(4, vec(10, 10, 0, 0), 0)}
	one := []impl.Item{item(99, vec(10, 9, 0, -40), 15)}
	for _, c := range []struct {
		b    impl.Book
		list []impl.Item
		at   []int
		many int
		want []impl.Hit
	}{
		{plainBook(), list, vec(3, 0, 0, 0), 1, []impl.Hit{hit(1, 9)}},
		{plainBook(), list, vec(3, 0, 0, 0), 2, []impl.Hit{hit(2, 0), hit(1, 9)}},
		{plainBook(), list, vec(3, 0, 0, 0), 3, []impl.Hit{hit(2, 0), hit(1, 9), hit(3, 25)}},
		{plainBook(), list, vec(3, 0, 0, 0), 4, []impl.Hit{hit(2, 0), hit(1, 9), hit(3, 25), hit(4, 149)}},
		{plainBook(), list, vec(3, 0, 0, 0), 16, []impl.Hit{hit(2, 0), hit(1, 9), hit(3, 25), hit(4, 149)}},
		// The farthest item has one of the nearest codes, and the nearest one has not.
		{plainBook(), line(4, 6, 5, -9, 30), vec(5, 0, 0, 0), 2, []impl.Hit{hit(1, 1), hit(2, 1)}},
		{plainBook(), line(4, 6, 5, -9, 30), vec(6, 0, 0, 0), 2, []impl.Hit{hit(2, 0), hit(5, 576)}},
		{plainBook(), line(4, 6, 5, -9, 30), vec(6, 0, 0, 0), 3, []impl.Hit{hit(2, 0), hit(1, 4), hit(5, 576)}},
		{plainBook(), line(4, 6, 5, -9, 30), vec(6, 0, 0, 0), 4, []impl.Hit{hit(2, 0), hit(3, 1), hit(1, 4), hit(5, 576)}},
		// The keys decide between items that are as near.
		{plainBook(), line(1, -1, 1, -1), flat(0), 3, []impl.Hit{hit(1, 1), hit(2, 1), hit(3, 1)}},
		{plainBook(), nil, flat(0), 16, nil},
		{plainBook(), []impl.Item{}, flat(0), 1, nil},
		{plainBook(), one, vec(10, 10, -5, 5), 1, []impl.Hit{hit(99, 1+25+45*45)}},
		{plainBook(), one, vec(10, 10, -5, 5), 16, []impl.Hit{hit(99, 1+25+45*45)}},
		{limitBook(), []impl.Item{item(99, flat(-100), 15)}, flat(100), 2, []impl.Hit{hit(99, 160000)}},
	} {
		for k := 1; k <= impl.MaxItems; k++ {
			if got := impl.RerankNearest(c.b, c.list, c.at, c.many, k); !slices.Equal(got, c.want[:min(k, len(c.want))]) {
				t.Errorf("RerankNearest(%v, %v, %v, %d, %d) = %v, not the first of %v", c.b, c.list, c.at, c.many, k, got, c.want)
			}
		}
	}
}

func TestRerankNearestFull(t *testing.T) {
	// All codes are equal, so the smallest keys are ranked again.
	same, list := sampleBooks()[2], evenLine(6)
	for many := 1; many <= impl.MaxItems; many++ {
		for k := 1; k <= impl.MaxItems; k++ {
			var want []impl.Hit
			for i := range min(many, k) {
				want = append(want, hit(many-i, (100-6*(many-i-1))*(100-6*(many-i-1))))
			}
			if got := impl.RerankNearest(same, list, vec(100, 0, 0, 0), many, k); !slices.Equal(got, want) {
				t.Errorf("RerankNearest of 16 items, many %d, k %d, = %v, not %v", many, k, got, want)
			}
		}
	}
}

func TestRerankNearestAll(t *testing.T) {
	missed := 0
	eachCoded(func(b impl.Book, list []impl.Item, at []int) {
		for _, many := range vec(1, 3, 8, impl.MaxItems) {
			want := wantReranked(b, list, at, many)
			if len(want) > 0 && want[0].Dist > wantHits(list, impl.DistSquare, at)[0].Dist {
				missed++
			}
			for _, k := range vec(1, 3, 4, impl.MaxItems) {
				if got := impl.RerankNearest(b, list, at, many, k); !slices.Equal(got, want[:min(k, len(want))]) {
					t.Errorf("RerankNearest(%v, %v, %v, %d, %d) = %v, not the first of %v", b, list, at, many, k, got, want)
				}
			}
		}
	})
	if missed < 500 {
		t.Errorf("only %d searches miss the nearest item", missed)
	}
}

func TestRerankNearestInvalid(t *testing.T) {
	check := func(b impl.Book, list []impl.Item, at []int, many int, k int) {
		if got := impl.RerankNearest(b, list, at, many, k); len(got) != 0 {
			t.Errorf("RerankNearest(%v, %v, %v, %d, %d) = %v", b, list, at, many, k, got)
		}
	}
	badArguments(sampleBooks(), badBooks(), func(b impl.Book, list []impl.Item, at []int) {
		check(b, list, at, 1, 1)
		check(b, list, at, impl.MaxItems, impl.MaxItems)
	})
	for _, bad := range badCounts() {
		for _, list := range sampleStores() {
			for _, b := range sampleBooks() {
				for _, n := range vec(1, 2, impl.MaxItems, bad) {
					check(b, list, flat(1), bad, n)
					check(b, list, flat(1), n, bad)
				}
			}
		}
		check(impl.Book{}, badStores()[0], nil, bad, bad)
	}
}

func TestCodeArgumentsAreNotChanged(t *testing.T) {
	eachCoded(func(b impl.Book, list []impl.Item, at []int) {
		b, list, at = roomyBook(b), roomyItems(list), roomy(at)
		wantBook, wantList, wantAt := wholeBook(b), cloneItems(list), slices.Clone(at[:cap(at)])
		impl.ValidBook(b)
		impl.EncodeVector(b, at)
		impl.DecodeVector(b, len(list)%allCodes)
		impl.CodeDistances(b, at)
		impl.CodeNearest(b, list, at, 3)
		impl.RerankNearest(b, list, at, 5, 3)
		impl.RerankNearest(b, list, at, impl.MaxItems, impl.MaxItems)
		if !sameVectors(wholeBook(b), wantBook) || !sameMemory(list, wantList) || !slices.Equal(at[:cap(at)], wantAt) {
			t.Errorf("arguments are changed: %v, %v, %v", wholeBook(b), list[:cap(list)], at[:cap(at)])
		}
	})
}

func TestCodeResultsAreFresh(t *testing.T) {
	eachCode(func(b impl.Book, at []int) {
		b, at = roomyBook(b), roomy(at)
		given := slices.Concat(b.Left[:cap(b.Left)], b.Right[:cap(b.Right)], [][]int{at})
		results := [][]int{impl.CodeDistances(b, at), impl.CodeDistances(b, at)}
		for code := range allCodes {
			results = append(results, impl.DecodeVector(b, code))
		}
		results = append(results, impl.DecodeVector(b, 0))
		if overlapAny(results) {
			t.Errorf("results of %v share memory", b)
		}
		for _, v := range results {
			for _, w := range given {
				if overlap(v, w) {
					t.Errorf("a result of %v shares %v", b, w)
				}
			}
		}
	})
}

func TestCodeHitsAreFresh(t *testing.T) {
	eachCoded(func(b impl.Book, list []impl.Item, at []int) {
		coded, again := impl.CodeNearest(b, list, at, 5), impl.RerankNearest(b, list, at, 5, 5)
		if overlap(coded, impl.CodeNearest(b, list, at, 5)) || overlap(again, impl.RerankNearest(b, list, at, 5, 5)) || overlap(coded, again) {
			t.Errorf("two searches in %v share their hits", list)
		}
	})
}

func TestCodeResultsKeepNothing(t *testing.T) {
	b := plainBook()
	for range 2 {
		at, dists := impl.DecodeVector(b, 13), impl.CodeDistances(b, flat(0))
		if !slices.Equal(at, vec(10, 10, 5, 5)) || dists[15] != 281 || impl.EncodeVector(b, vec(9, 9, 5, 4)) != 13 {
			t.Errorf("DecodeVector(%v, 13) = %v, CodeDistances = %v", b, at, dists)
		}
		// What is done to a result does not come back in the next one.
		clear(at)
		clear(dists)
	}
}
