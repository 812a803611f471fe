package tests

import (
	"slices"
	"testing"

	"loop.example/vectorstore/impl"
)

func TestP54BooksHaveBothSides(t *testing.T) {
	for _, b := range sampleBooks() {
		if !impl.ValidBook(b) || !impl.ValidBook(book(b.Right, b.Left)) {
			t.Errorf("ValidBook(%v) = %v, and with its sides exchanged %v", b, impl.ValidBook(b), impl.ValidBook(book(b.Right, b.Left)))
		}
	}
	for _, b := range badBooks() {
		if impl.ValidBook(b) || impl.ValidBook(book(b.Right, b.Left)) {
			t.Errorf("ValidBook(%v) = %v, and with its sides exchanged %v", b, impl.ValidBook(b), impl.ValidBook(book(b.Right, b.Left)))
		}
	}
}

func TestP55CodesAreNear(t *testing.T) {
	eachCode(func(b impl.Book, at []int) {
		code := encoded(t, b, at)
		least := impl.Distance(impl.DistSquare, decoded(t, b, code), at)
		for other := range allCodes {
			dist := impl.Distance(impl.DistSquare, decoded(t, b, other), at)
			if dist < least || dist == least && other < code {
				t.Errorf("EncodeVector(%v, %v) = %d, but %d is nearer or as near", b, at, code, other)
			}
		}
	})
}

func TestP56DecodedVectorsHaveCodes(t *testing.T) {
	other := 0
	for _, b := range sampleBooks() {
		for code := range allCodes {
			at := decoded(t, b, code)
			again := encoded(t, b, at)
			if got := decoded(t, b, again); !slices.Equal(got, at) {
				t.Errorf("code %d of %v is %v, but its code %d is %v", code, b, at, again, got)
			}
			if again > code {
				t.Errorf("EncodeVector(%v, %v) = %d, but %d is an earlier code", b, at, again, code)
			}
			if again < code {
				other++
			}
		}
	}
	if other < 30 {
		t.Errorf("only %d codes are those of vectors with an earlier one", other)
	}
}

func TestP57CodesHaveTwoHalves(t *testing.T) {
	for _, b := range sampleBooks() {
		for code := range allCodes {
			at := decoded(t, b, code)
			if !slices.Equal(at[:2], b.Left[code/4]) || !slices.Equal(at[2:], b.Right[code%4]) {
				t.Errorf("DecodeVector(%v, %d) = %v", b, code, at)
			}
		}
	}
}

func TestP58CodesHaveDistances(t *testing.T) {
	eachCode(func(b impl.Book, at []int) {
		dists := codeDistances(t, b, at)
		for code, dist := range dists {
			if want := impl.Distance(impl.DistSquare, at, decoded(t, b, code)); dist != want {
				t.Errorf("CodeDistances(%v, %v) has %d for %d, not %d", b, at, dist, code, want)
			}
		}
		if code := encoded(t, b, at); dists[code] != slices.Min(dists) {
			t.Errorf("CodeDistances(%v, %v) = %v, but EncodeVector is %d", b, at, dists, code)
		}
	})
}

func TestP59DistancesOfCodesAreSums(t *testing.T) {
	eachCode(func(b impl.Book, at []int) {
		dists := codeDistances(t, b, at)
		for one := range allCodes {
			for two := range allCodes {
				mixed := dists[one/4*4+two%4] + dists[two/4*4+one%4]
				if dists[one]+dists[two] != mixed {
					t.Errorf("CodeDistances(%v, %v) = %v do not add up for %d and %d", b, at, dists, one, two)
				}
			}
		}
	})
}

func TestP60CodedItemsHaveCodedDistances(t *testing.T) {
	eachCoded(func(b impl.Book, list []impl.Item, at []int) {
		has, dists := itemsOf(list), codeDistances(t, b, at)
		for _, k := range vec(1, 3, impl.MaxItems) {
			seen := map[int]bool{}
			for _, h := range codeNearest(t, b, list, at, k) {
				x, there := has[h.Key]
				if !there || seen[h.Key] || h.Dist != dists[encoded(t, b, x.At)] {
					t.Errorf("CodeNearest(%v, %v, %v, %d) has %v", b, list, at, k, h)
				}
				seen[h.Key] = true
			}
		}
	})
}

func TestP61CodesStandForVectors(t *testing.T) {
	eachCoded(func(b impl.Book, list []impl.Item, at []int) {
		stored := slices.Clone(list)
		for i, x := range stored {
			stored[i].At = decoded(t, b, encoded(t, b, x.At))
		}
		for _, k := range vec(1, 2, 6, impl.MaxItems) {
			want := nearestOf(t, stored, impl.DistSquare, at, k)
			if got := impl.CodeNearest(b, list, at, k); !slices.Equal(got, want) {
				t.Errorf("CodeNearest(%v, %v, %v, %d) = %v, not %v", b, list, at, k, got, want)
			}
		}
	})
}

func TestP62RankedAgainIsRankedRightly(t *testing.T) {
	eachCoded(func(b impl.Book, list []impl.Item, at []int) {
		has := itemsOf(list)
		for _, many := range vec(1, 4, impl.MaxItems) {
			for _, k := range vec(1, 3, impl.MaxItems) {
				got := reranked(t, b, list, at, many, k)
				for _, h := range got {
					if x, there := has[h.Key]; !there || h.Dist != impl.Distance(impl.DistSquare, x.At, at) {
						t.Errorf("RerankNearest(%v, %v, %v, %d, %d) has %v", b, list, at, many, k, h)
					}
				}
				if want := nearestOf(t, list, impl.DistSquare, at, k); many >= len(list) && !slices.Equal(got, want) {
					t.Errorf("RerankNearest(%v, %v, %v, %d, %d) = %v, not %v", b, list, at, many, k, got, want)
				}
			}
		}
	})
}

func TestP62AllItemsAreJustEnough(t *testing.T) {
	eachCoded(func(b impl.Book, list []impl.Item, at []int) {
		if len(list) == 0 {
			return
		}
		for _, k := range vec(1, 5, impl.MaxItems) {
			want := nearestOf(t, list, impl.DistSquare, at, k)
			if got := impl.RerankNearest(b, list, at, len(list), k); !slices.Equal(got, want) {
				t.Errorf("RerankNearest(%v, %v, %v, %d, %d) = %v, not %v", b, list, at, len(list), k, got, want)
			}
		}
	})
}

func TestP63OnlyNearCodesAreRankedAgain(t *testing.T) {
	left := 0
	eachCoded(func(b impl.Book, list []impl.Item, at []int) {
		for _, many := range vec(1, 3, 7) {
			coded := codeNearest(t, b, list, at, many)
			for _, k := range vec(1, 2, impl.MaxItems) {
				got := reranked(t, b, list, at, many, k)
				for _, h := range got {
					if !slices.ContainsFunc(coded, func(c impl.Hit) bool { return c.Key == h.Key }) {
						t.Errorf("RerankNearest(%v, %v, %v, %d, %d) has %v", b, list, at, many, k, h)
					}
				}
				if k > many && len(got) < len(list) {
					left++
				}
			}
		}
	})
	if left < 500 {
		t.Errorf("only %d searches leave items out for their codes", left)
	}
}

func TestP152HalvesAreCodedAlone(t *testing.T) {
	for _, b := range sampleBooks() {
		for _, v := range sampleVectors() {
			for _, w := range append(sampleVectors(), wantVectors(b)...) {
				want := encoded(t, b, v)/4*4 + encoded(t, b, w)%4
				if got := encoded(t, b, slices.Concat(v[:2], w[2:])); got != want {
					t.Errorf("EncodeVector(%v) of the halves of %v and %v = %d, not %d", b, v, w, got, want)
				}
			}
		}
	}
}

func TestP153DifferentHalvesAreDifferentVectors(t *testing.T) {
	equal := 0
	for _, b := range sampleBooks() {
		for one := range allCodes {
			for two := range allCodes {
				halves := slices.Equal(b.Left[one/4], b.Left[two/4]) && slices.Equal(b.Right[one%4], b.Right[two%4])
				if got := slices.Equal(decoded(t, b, one), decoded(t, b, two)); got != halves {
					t.Errorf("the vectors of %d and %d of %v are equal: %v", one, two, b, got)
				}
				if halves && one != two {
					equal++
				}
			}
		}
	}
	if equal < 100 {
		t.Errorf("only %d pairs of different codes are equal vectors", equal)
	}
}
