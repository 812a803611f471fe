package tests

import (
	"slices"
	"testing"

	"loop.example/vectorstore/impl"
)

func TestP19NearestItemsStayBehindMerging(t *testing.T) {
	left := 0
	eachSearch(allKinds(), func(list []impl.Item, kind int, at []int) {
		for _, k := range vec(1, 2, 5, impl.MaxItems) {
			hits := nearestOf(t, list, kind, at, k)
			if !impl.ValidHits(hits) {
				t.Errorf("Nearest(%v, %d, %v, %d) = %v are no valid hits", list, kind, at, k, hits)
			}
			for _, x := range list {
				if slices.Contains(hitKeys(hits), x.Key) {
					continue
				}
				left++
				other := []impl.Hit{hit(x.Key, impl.Distance(kind, x.At, at))}
				if got := impl.MergeHits(hits, other, k); !slices.Equal(got, hits) {
					t.Errorf("Nearest(%v, %d, %v, %d) = %v leaves out %v", list, kind, at, k, hits, other)
				}
			}
		}
	})
	if left < 500 {
		t.Errorf("only %d items are left out", left)
	}
}

func TestP23NearEnoughItemsAreValidHits(t *testing.T) {
	eachSearch(allKinds(), func(list []impl.Item, kind int, at []int) {
		all := nearestOf(t, list, kind, at, impl.MaxItems)
		for _, most := range someDistances(list, kind, at) {
			hits := impl.WithinDist(list, kind, at, most)
			many := 0
			for _, x := range list {
				if impl.Distance(kind, x.At, at) <= most {
					many++
				}
			}
			if !impl.ValidHits(hits) || len(list) > 0 && impl.RecallOf(all, hits) != many*1000/len(list) {
				t.Errorf("WithinDist(%v, %d, %v, %d) = %v, but %d items are near enough", list, kind, at, most, hits, many)
			}
		}
	})
}

func TestP50ProbedHitsAreOfTheStore(t *testing.T) {
	eachProbe(func(centres [][]int, list []impl.Item, at []int) {
		all := nearestOf(t, list, impl.DistSquare, at, impl.MaxItems)
		for many := 1; many <= impl.MaxCentres; many++ {
			for _, k := range vec(1, 3, impl.MaxItems) {
				hits := probed(t, centres, list, at, many, k)
				if !impl.ValidHits(hits) || len(hits) > 0 && impl.RecallOf(hits, all) != 1000 {
					t.Errorf("ProbeNearest(%v, %v, %v, %d, %d) = %v, but all hits are %v", centres, list, at, many, k, hits, all)
				}
				if got := impl.MergeHits(all, hits, impl.MaxItems); !slices.Equal(got, all) {
					t.Errorf("ProbeNearest(%v, %v, %v, %d, %d) = %v changes the hits %v to %v", centres, list, at, many, k, hits, all, got)
				}
			}
		}
	})
}

func TestP60CodedHitsAreValid(t *testing.T) {
	eachCoded(func(b impl.Book, list []impl.Item, at []int) {
		for _, k := range vec(1, 3, impl.MaxItems) {
			if hits := codeNearest(t, b, list, at, k); !impl.ValidHits(hits) {
				t.Errorf("CodeNearest(%v, %v, %v, %d) = %v are no valid hits", b, list, at, k, hits)
			}
		}
	})
}

func TestP63RankedAgainIsRecalled(t *testing.T) {
	eachCoded(func(b impl.Book, list []impl.Item, at []int) {
		for _, many := range vec(1, 3, impl.MaxItems) {
			coded := codeNearest(t, b, list, at, many)
			for _, k := range vec(1, 2, impl.MaxItems) {
				hits := reranked(t, b, list, at, many, k)
				if !impl.ValidHits(hits) || len(hits) > 0 && impl.RecallOf(hits, coded) != 1000 {
					t.Errorf("RerankNearest(%v, %v, %v, %d, %d) = %v, but CodeNearest %v", b, list, at, many, k, hits, coded)
				}
			}
		}
	})
}

func TestP72MoreBitsAreRightMoreOften(t *testing.T) {
	more := 0
	eachHashed(func(planes [][]int, list []impl.Item, at []int) {
		if len(list) == 0 {
			return
		}
		for _, k := range vec(1, 4, impl.MaxItems) {
			right, last := nearestOf(t, list, impl.DistSquare, at, k), 0
			for bits := range impl.MaxPlanes + 1 {
				next := impl.RecallOf(right, impl.HashNearest(planes, list, at, bits, k))
				if next < last {
					t.Errorf("RecallOf HashNearest(%v, %v, %v, %d, %d) is %d, but with one bit less %d", planes, list, at, bits, k, next, last)
				}
				if next > last && bits > 0 {
					more++
				}
				last = next
			}
			if last != 1000 {
				t.Errorf("RecallOf HashNearest(%v, %v, %v) with all bits is %d", planes, list, at, last)
			}
		}
	})
	if more < 500 {
		t.Errorf("only %d searches are right more often with one bit more", more)
	}
}

func TestP91HitsCanBeLeftOut(t *testing.T) {
	for _, list := range sampleHits() {
		if !impl.ValidHits(list) {
			t.Errorf("ValidHits(%v) = false", list)
		}
		for i := range list {
			if some := slices.Concat(list[:i], list[i+1:]); !impl.ValidHits(some) {
				t.Errorf("ValidHits(%v) = false", some)
			}
		}
	}
}

func TestP92MergedHitsAreOfBothLists(t *testing.T) {
	eachTwoHits(func(a []impl.Hit, b []impl.Hit) {
		for _, k := range vec(1, 2, 7, impl.MaxItems) {
			merged := impl.MergeHits(a, b, k)
			if !impl.ValidHits(merged) || len(merged) != min(k, len(a)+len(b)-commonKeys(a, b)) {
				t.Errorf("MergeHits(%v, %v, %d) = %v", a, b, k, merged)
			}
			for _, h := range merged {
				if !slices.Contains(a, h) && !slices.Contains(b, h) {
					t.Errorf("MergeHits(%v, %v, %d) has %v", a, b, k, h)
				}
			}
		}
	})
}

func TestP93TheOrderOfListsDoesNotMatter(t *testing.T) {
	eachTwoHits(func(a []impl.Hit, b []impl.Hit) {
		for k := 1; k <= impl.MaxItems; k++ {
			if one, other := impl.MergeHits(a, b, k), impl.MergeHits(b, a, k); !slices.Equal(one, other) {
				t.Errorf("MergeHits(%v, %v, %d) = %v, and the other way round %v", a, b, k, one, other)
			}
		}
	})
	for _, list := range sampleHits() {
		for k := 1; k <= impl.MaxItems; k++ {
			if got := impl.MergeHits(list, list, k); !slices.Equal(got, list[:min(k, len(list))]) {
				t.Errorf("MergeHits of %v and itself, k %d, = %v", list, k, got)
			}
		}
	}
}

func TestP94HitsOfPartsAreHitsOfTheWhole(t *testing.T) {
	eachSearch(allKinds(), func(list []impl.Item, kind int, at []int) {
		for _, k := range vec(1, 2, 5, impl.MaxItems) {
			want := nearestOf(t, list, kind, at, k)
			for cut := range len(list) + 1 {
				a, b := nearestOf(t, list[:cut], kind, at, k), nearestOf(t, list[cut:], kind, at, k)
				if got := impl.MergeHits(a, b, k); !slices.Equal(got, want) {
					t.Errorf("MergeHits(%v, %v, %d) = %v, but Nearest of the store is %v", a, b, k, got, want)
				}
			}
		}
	})
}

func TestP95FirstPlacesHaveMore(t *testing.T) {
	for _, list := range sampleHits() {
		last := impl.RankTop
		for _, h := range list {
			next := impl.RankScore(list, h.Key)
			if next > last || next <= 0 {
				t.Errorf("RankScore(%v, %d) = %d, and %d one place before", list, h.Key, next, last)
			}
			last = next
		}
		for key := range impl.MaxKey + 2 {
			if !slices.Contains(hitKeys(list), key) && impl.RankScore(list, key) != 0 {
				t.Errorf("RankScore(%v, %d) = %d", list, key, impl.RankScore(list, key))
			}
		}
	}
}

func TestP96FusedRanksHaveAllKeys(t *testing.T) {
	eachTwoHits(func(a []impl.Hit, b []impl.Hit) {
		keys := impl.FuseRanks(a, b)
		sorted := slices.Sorted(slices.Values(keys))
		want := slices.Sorted(slices.Values(append(hitKeys(a), hitKeys(b)...)))
		if !slices.Equal(sorted, slices.Compact(want)) {
			t.Errorf("FuseRanks(%v, %v) = %v", a, b, keys)
		}
		score := func(key int) int {
			return impl.RankScore(a, key) + impl.RankScore(b, key)
		}
		for i := 1; i < len(keys); i++ {
			if last, next := score(keys[i-1]), score(keys[i]); next > last || next == last && keys[i] < keys[i-1] {
				t.Errorf("FuseRanks(%v, %v) = %v grows at %d", a, b, keys, i)
			}
		}
	})
}

func TestP97AListFusedWithItselfIsItself(t *testing.T) {
	for _, list := range sampleHits() {
		keys := hitKeys(list)
		for _, got := range [][]int{impl.FuseRanks(list, list), impl.FuseRanks(list, nil), impl.FuseRanks(nil, list)} {
			if !slices.Equal(got, keys) {
				t.Errorf("FuseRanks of %v with itself or no hits = %v", list, got)
			}
		}
	}
}

func TestP98EverythingRightIsAllRight(t *testing.T) {
	eachTwoHits(func(a []impl.Hit, b []impl.Hit) {
		if len(a) == 0 {
			return
		}
		if got := impl.RecallOf(a, a); got != 1000 {
			t.Errorf("RecallOf %v for itself = %d", a, got)
		}
		if got := impl.RecallOf(a, nil); got != 0 {
			t.Errorf("RecallOf no hits for %v = %d", a, got)
		}
		if got := impl.RecallOf(a, b); got < 0 || got > 1000 {
			t.Errorf("RecallOf(%v, %v) = %d", a, b, got)
		}
	})
}

func TestP99PartsAreParts(t *testing.T) {
	for _, list := range sampleHits() {
		for many := 0; many <= len(list) && len(list) > 0; many++ {
			if got := impl.RecallOf(list, list[:many]); got != many*1000/len(list) {
				t.Errorf("RecallOf the first %d of %v = %d", many, list, got)
			}
		}
	}
}

func TestP163MergingCanBeRegrouped(t *testing.T) {
	lists := sampleHits()
	eachTwoHits(func(a []impl.Hit, b []impl.Hit) {
		for i := 0; i < len(lists); i += 3 {
			c := lists[i]
			for _, k := range vec(1, 4, impl.MaxItems) {
				left := impl.MergeHits(impl.MergeHits(a, b, k), c, k)
				right := impl.MergeHits(a, impl.MergeHits(b, c, k), k)
				if !slices.Equal(left, right) {
					t.Errorf("MergeHits of %v, %v and %v, k %d, = %v from the left and %v from the right", a, b, c, k, left, right)
				}
			}
		}
	})
}

func TestP164FirstPlacesHaveTheBestScores(t *testing.T) {
	for _, list := range sampleHits() {
		for i, h := range list {
			best := impl.RankTop / (impl.RankStep + 1)
			if got := impl.RankScore(list, h.Key); (got == best) != (i == 0) || got > best {
				t.Errorf("RankScore(%v, %d) = %d", list, h.Key, got)
			}
		}
	}
}

func TestP165FewerWantedAreFound(t *testing.T) {
	eachSearch(allKinds(), func(list []impl.Item, kind int, at []int) {
		if len(list) == 0 {
			return
		}
		for k := 1; k <= impl.MaxItems; k++ {
			right := nearestOf(t, list, kind, at, k)
			for fewer := 1; fewer <= k; fewer++ {
				found := nearestOf(t, list, kind, at, fewer)
				if got := impl.RecallOf(right, found); got != len(found)*1000/len(right) {
					t.Errorf("RecallOf(%v, %v) = %d", right, found, got)
				}
			}
		}
	})
}
