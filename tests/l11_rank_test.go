package tests

import (
	"slices"
	"testing"

	"loop.example/vectorstore/impl"
)

func TestValidHitsOrdinary(t *testing.T) {
	for _, list := range sampleHits() {
		if !impl.ValidHits(list) {
			t.Errorf("ValidHits(%v) = false", list)
		}
	}
	for key := 1; key <= impl.MaxKey; key++ {
		for _, dist := range vec(0, 1, impl.FarAway-1, impl.FarAway) {
			if !impl.ValidHits([]impl.Hit{hit(key, dist)}) {
				t.Errorf("ValidHits of %d with the distance %d = false", key, dist)
			}
		}
	}
}

func TestValidHitsOfSearches(t *testing.T) {
	eachSearch(allKinds(), func(list []impl.Item, kind int, at []int) {
		if hits := wantHits(list, kind, at); !impl.ValidHits(hits) {
			t.Errorf("ValidHits(%v) = false", hits)
		}
	})
}

func TestValidHitsInvalid(t *testing.T) {
	for _, list := range badHits() {
		if impl.ValidHits(list) {
			t.Errorf("ValidHits(%v) = true", list)
		}
	}
	// Each hit of a full list can be the wrong one.
	for i := range impl.MaxItems {
		good := hitRow(10, 10, keyRow(1, 1)...)
		for _, h := range []impl.Hit{hit(0, 10+10*i), hit(100, 10+10*i), hit(50, -1), hit(50, impl.FarAway+1), hit((i+1)%impl.MaxItems+1, 10+10*i)} {
			if list := changedHits(good, i, h); impl.ValidHits(list) {
				t.Errorf("ValidHits(%v) = true", list)
			}
		}
		for j := range i {
			list := slices.Clone(good)
			list[i], list[j] = list[j], list[i]
			if impl.ValidHits(list) {
				t.Errorf("ValidHits(%v) = true", list)
			}
		}
	}
}

func TestMergeHitsOrdinary(t *testing.T) {
	near := []impl.Hit{hit(4, 1), hit(2, 5), hit(9, 7)}
	for _, c := range []struct{ a, b, want []impl.Hit }{
		{nil, nil, nil},
		{near, nil, near},
		{nil, near, near},
		{near, near, near},
		{near, []impl.Hit{hit(3, 2), hit(8, 7)}, []impl.Hit{hit(4, 1), hit(3, 2), hit(2, 5), hit(8, 7), hit(9, 7)}},
		{near, []impl.Hit{hit(1, 0)}, []impl.Hit{hit(1, 0), hit(4, 1), hit(2, 5), hit(9, 7)}},
		{near, []impl.Hit{hit(1, 8)}, []impl.Hit{hit(4, 1), hit(2, 5), hit(9, 7), hit(1, 8)}},
		// A key in both lists: as far, nearer in the first one, and nearer in the second one.
		{near, []impl.Hit{hit(2, 5)}, near},
		{near, []impl.Hit{hit(2, 6)}, near},
		{near, []impl.Hit{hit(2, 4)}, []impl.Hit{hit(4, 1), hit(2, 4), hit(9, 7)}},
		{near, []impl.Hit{hit(9, 0)}, []impl.Hit{hit(9, 0), hit(4, 1), hit(2, 5)}},
		{near, []impl.Hit{hit(4, impl.FarAway)}, near},
		// Equal distances, where the smaller key comes first.
		{[]impl.Hit{hit(5, 3), hit(7, 3)}, []impl.Hit{hit(4, 3), hit(6, 3)}, []impl.Hit{hit(4, 3), hit(5, 3), hit(6, 3), hit(7, 3)}},
		{[]impl.Hit{hit(99, 0)}, []impl.Hit{hit(1, 0)}, []impl.Hit{hit(1, 0), hit(99, 0)}},
		{[]impl.Hit{hit(99, impl.FarAway)}, []impl.Hit{hit(1, impl.FarAway)}, []impl.Hit{hit(1, impl.FarAway), hit(99, impl.FarAway)}},
	} {
		for k := 1; k <= impl.MaxItems; k++ {
			want := c.want[:min(k, len(c.want))]
			if got := impl.MergeHits(c.a, c.b, k); !slices.Equal(got, want) {
				t.Errorf("MergeHits(%v, %v, %d) = %v, not %v", c.a, c.b, k, got, want)
			}
		}
	}
}

func TestMergeHitsFull(t *testing.T) {
	odd, even := hitRow(5, 0, keyRow(1, 2)...), hitRow(5, 0, keyRow(2, 2)...)
	if got := impl.MergeHits(even, odd, impl.MaxItems); !slices.Equal(got, hitRow(5, 0, keyRow(1, 1)...)) {
		t.Errorf("MergeHits of 32 keys = %v", got)
	}
	up, down := hitRow(0, 1, keyRow(1, 1)...), hitRow(0, 1, keyRow(16, -1)...)
	want := []impl.Hit{hit(1, 0), hit(16, 0), hit(2, 1), hit(15, 1), hit(3, 2), hit(14, 2), hit(4, 3), hit(13, 3), hit(5, 4), hit(12, 4), hit(6, 5), hit(11, 5), hit(7, 6), hit(10, 6), hit(8, 7), hit(9, 7)}
	if got := impl.MergeHits(up, down, impl.MaxItems); !slices.Equal(got, want) {
		t.Errorf("MergeHits of 16 keys in both lists = %v", got)
	}
}

func TestMergeHitsAll(t *testing.T) {
	asFar, first, second := 0, 0, 0
	eachTwoHits(func(a []impl.Hit, b []impl.Hit) {
		want := wantMerged(a, b)
		for k := 1; k <= impl.MaxItems; k++ {
			if got := impl.MergeHits(a, b, k); !slices.Equal(got, want[:min(k, len(want))]) {
				t.Errorf("MergeHits(%v, %v, %d) = %v, not the first of %v", a, b, k, got, want)
			}
		}
		for _, h := range a {
			for _, other := range b {
				switch {
				case h.Key != other.Key:
				case h.Dist == other.Dist:
					asFar++
				case h.Dist < other.Dist:
					first++
				default:
					second++
				}
			}
		}
	})
	if asFar < 200 || first < 200 || second < 200 {
		t.Errorf("keys in both lists are as far %d times, and nearer in the first one %d and in the second one %d times", asFar, first, second)
	}
}

func TestMergeHitsInvalid(t *testing.T) {
	check := func(a []impl.Hit, b []impl.Hit, k int) {
		if got := impl.MergeHits(a, b, k); len(got) != 0 {
			t.Errorf("MergeHits(%v, %v, %d) = %v", a, b, k, got)
		}
	}
	eachTwoHits(func(a []impl.Hit, b []impl.Hit) {
		for _, k := range badCounts() {
			check(a, b, k)
		}
	})
	badTwoHits(func(a []impl.Hit, b []impl.Hit) {
		for _, k := range vec(0, 1, 3, impl.MaxItems, impl.MaxItems+1) {
			check(a, b, k)
		}
	})
}

func TestRankScoreOrdinary(t *testing.T) {
	list := hitRow(0, 1, keyRow(99, -3)...)
	for i, want := range vec(1639, 1612, 1587, 1562, 1538, 1515, 1492, 1470, 1449, 1428, 1408, 1388, 1369, 1351, 1333, 1315) {
		if got := impl.RankScore(list, 99-3*i); got != want {
			t.Errorf("RankScore of place %d = %d, not %d", i+1, got, want)
		}
	}
	// The place counts, not the distance, nor the key.
	for _, one := range []impl.Hit{hit(1, 0), hit(1, impl.FarAway), hit(99, 0), hit(99, impl.FarAway)} {
		if got := impl.RankScore([]impl.Hit{one}, one.Key); got != 1639 {
			t.Errorf("RankScore of %v alone = %d", one, got)
		}
	}
}

func TestRankScoreMissing(t *testing.T) {
	for _, list := range sampleHits() {
		for key := -1; key <= impl.MaxKey+2; key++ {
			if got := impl.RankScore(list, key); got != wantScore(list, key) {
				t.Errorf("RankScore(%v, %d) = %d", list, key, got)
			}
		}
		// No key of an item, but any number may be asked for.
		for _, key := range append(badNumbers(), 0, 100, 1000) {
			if got := impl.RankScore(list, key); got != 0 {
				t.Errorf("RankScore(%v, %d) = %d", list, key, got)
			}
		}
	}
}

func TestRankScoreInvalid(t *testing.T) {
	for _, list := range badHits() {
		keys := append(badNumbers(), 0, 1, 2, 50, 99, 100)
		for _, key := range append(keys, hitKeys(list)...) {
			if got := impl.RankScore(list, key); got != -1 {
				t.Errorf("RankScore(%v, %d) = %d", list, key, got)
			}
		}
	}
}

func TestFuseRanksOrdinary(t *testing.T) {
	a := hitRow(0, 1, 4, 2, 9)
	for _, c := range []struct {
		a, b []impl.Hit
		want []int
	}{
		{nil, nil, nil},
		{a, nil, vec(4, 2, 9)},
		{nil, a, vec(4, 2, 9)},
		{a, a, vec(4, 2, 9)},
		// What is in both lists comes before what is in one alone, and of what is at the same place the smaller key.
		{a, hitRow(0, 1, 5, 9), vec(9, 4, 5, 2)},
		{a, hitRow(0, 1, 3, 1, 8), vec(3, 4, 1, 2, 8, 9)},
		// The sums of the scores are equal.
		{a, hitRow(0, 1, 2, 4), vec(2, 4, 9)},
		{a, hitRow(0, 1, 9, 2, 4), vec(4, 9, 2)},
		{hitRow(0, 1, 30, 20, 10), hitRow(0, 1, 20, 30, 10), vec(20, 30, 10)},
		// Distances do not count.
		{hitRow(impl.FarAway, 0, 1, 2), hitRow(0, 0, 8, 9), vec(1, 8, 2, 9)},
		{hitRow(0, 0, 1, 2), hitRow(impl.FarAway, 0, 2, 3), vec(2, 1, 3)},
	} {
		if got := impl.FuseRanks(c.a, c.b); !slices.Equal(got, c.want) {
			t.Errorf("FuseRanks(%v, %v) = %v, not %v", c.a, c.b, got, c.want)
		}
	}
}

func TestFuseRanksFull(t *testing.T) {
	odd, even := hitRow(0, 1, keyRow(1, 2)...), hitRow(0, 1, keyRow(2, 2)...)
	if got := impl.FuseRanks(even, odd); !slices.Equal(got, append(keyRow(1, 1), keyRow(17, 1)...)) {
		t.Errorf("FuseRanks of 32 keys = %v", got)
	}
	// Each key is as many places from the front of one list as from the end of the other one: the sums are greatest at both ends.
	up, down := hitRow(0, 1, keyRow(1, 1)...), hitRow(0, 1, keyRow(16, -1)...)
	if got := impl.FuseRanks(up, down); !slices.Equal(got, vec(1, 16, 2, 15, 3, 14, 4, 13, 5, 12, 6, 11, 7, 10, 8, 9)) {
		t.Errorf("FuseRanks of 16 keys in both lists = %v", got)
	}
}

func TestFuseRanksAll(t *testing.T) {
	equal := 0
	eachTwoHits(func(a []impl.Hit, b []impl.Hit) {
		got, want := impl.FuseRanks(a, b), wantFused(a, b)
		if !slices.Equal(got, want) {
			t.Errorf("FuseRanks(%v, %v) = %v, not %v", a, b, got, want)
		}
		for i := 1; i < len(want); i++ {
			if wantScore(a, want[i-1])+wantScore(b, want[i-1]) == wantScore(a, want[i])+wantScore(b, want[i]) {
				equal++
			}
		}
	})
	if equal < 500 {
		t.Errorf("only %d sums of scores are equal", equal)
	}
}

func TestFuseRanksInvalid(t *testing.T) {
	badTwoHits(func(a []impl.Hit, b []impl.Hit) {
		if got := impl.FuseRanks(a, b); len(got) != 0 {
			t.Errorf("FuseRanks(%v, %v) = %v", a, b, got)
		}
	})
}

func TestRecallOfOrdinary(t *testing.T) {
	right := hitRow(0, 1, 4, 2, 9)
	for _, c := range []struct {
		right, found []impl.Hit
		want         int
	}{
		{right, right, 1000},
		{right, nil, 0},
		{right, hitRow(0, 1, 1, 3, 5, 7), 0},
		{right, hitRow(0, 0, 2), 333},
		{right, hitRow(0, 0, 4, 9), 666},
		// Neither the distances nor the places count.
		{right, hitRow(50, 9, 9, 1, 4, 2), 1000},
		{right, hitRow(impl.FarAway, 0, 2, 4, 99), 666},
		// What is found beside the right ones does not matter.
		{hitRow(0, 0, 4), right, 1000},
		{hitRow(0, 0, 4, 5), right, 500},
		{hitRow(7, 0, 1), hitRow(0, 0, keyRow(1, 1)...), 1000},
		{hitRow(0, 0, keyRow(1, 1)...), hitRow(7, 0, 1), 62},
		{hitRow(0, 0, keyRow(1, 1)...), hitRow(0, 0, keyRow(2, 1)...), 937},
		{hitRow(0, 0, keyRow(1, 1)...), hitRow(0, 0, keyRow(16, 1)...), 62},
		{hitRow(0, 0, keyRow(1, 1)...), hitRow(0, 0, keyRow(17, 1)...), 0},
	} {
		if got := impl.RecallOf(c.right, c.found); got != c.want {
			t.Errorf("RecallOf(%v, %v) = %d, not %d", c.right, c.found, got, c.want)
		}
	}
}

func TestRecallOfAll(t *testing.T) {
	part := 0
	eachTwoHits(func(right []impl.Hit, found []impl.Hit) {
		if len(right) == 0 {
			return
		}
		got := impl.RecallOf(right, found)
		if got != commonKeys(right, found)*1000/len(right) {
			t.Errorf("RecallOf(%v, %v) = %d", right, found, got)
		}
		if got > 0 && got < 1000 {
			part++
		}
	})
	if part < 200 {
		t.Errorf("only %d lists have a part of the keys of others", part)
	}
}

func TestRecallOfInvalid(t *testing.T) {
	check := func(right []impl.Hit, found []impl.Hit) {
		if got := impl.RecallOf(right, found); got != -1 {
			t.Errorf("RecallOf(%v, %v) = %d", right, found, got)
		}
	}
	for _, found := range append(sampleHits(), badHits()...) {
		check(nil, found)
		check([]impl.Hit{}, found)
	}
	badTwoHits(check)
}

func TestRankArgumentsAreNotChanged(t *testing.T) {
	check := func(a []impl.Hit, b []impl.Hit) {
		a, b = roomyHits(a), roomyHits(b)
		wantA, wantB := slices.Clone(a[:cap(a)]), slices.Clone(b[:cap(b)])
		for _, k := range vec(1, 3, impl.MaxItems) {
			impl.MergeHits(a, b, k)
		}
		impl.ValidHits(a)
		impl.RankScore(a, 7)
		impl.FuseRanks(a, b)
		impl.RecallOf(a, b)
		if !slices.Equal(a[:cap(a)], wantA) || !slices.Equal(b[:cap(b)], wantB) {
			t.Errorf("arguments are changed: %v, %v", a[:cap(a)], b[:cap(b)])
		}
	}
	eachTwoHits(check)
	badTwoHits(check)
}

func TestRankResultsAreFresh(t *testing.T) {
	eachTwoHits(func(a []impl.Hit, b []impl.Hit) {
		a, b = roomyHits(a), roomyHits(b)
		for _, k := range vec(1, 3, impl.MaxItems) {
			hits := impl.MergeHits(a, b, k)
			if overlap(hits, a) || overlap(hits, b) || overlap(hits, impl.MergeHits(a, b, k)) {
				t.Errorf("MergeHits(%v, %v, %d) shares its hits", a, b, k)
			}
		}
		keys := impl.FuseRanks(a, b)
		if overlap(keys, impl.FuseRanks(a, b)) {
			t.Errorf("FuseRanks(%v, %v) shares its keys", a, b)
		}
	})
}

func TestRankResultsKeepNothing(t *testing.T) {
	a, b := hitRow(0, 2, 4, 2, 9), hitRow(1, 0, 5, 9)
	for range 2 {
		hits, keys := impl.MergeHits(a, b, 3), impl.FuseRanks(a, b)
		if !slices.Equal(hits, []impl.Hit{hit(4, 0), hit(5, 1), hit(9, 1)}) || !slices.Equal(keys, vec(9, 4, 5, 2)) {
			t.Fatalf("MergeHits(%v, %v) = %v, FuseRanks = %v", a, b, hits, keys)
		}
		// What is done to a result does not come back in the next one.
		clear(hits[:cap(hits)])
		clear(keys[:cap(keys)])
	}
}
