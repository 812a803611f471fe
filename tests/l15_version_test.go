package tests

import (
	"slices"
	"testing"

	"loop.example/vectorstore/impl"
)

func TestVersionConstants(t *testing.T) {
	if impl.MaxTime != 1000 {
		t.Errorf("MaxTime is %d", impl.MaxTime)
	}
}

func TestValidHistoryOrdinary(t *testing.T) {
	for _, h := range sampleHistories() {
		if !impl.ValidHistory(h) {
			t.Errorf("ValidHistory(%v) = false", h)
		}
	}
	// All times of one entry, and of the last one of two.
	for moment := -2; moment <= impl.MaxTime+3; moment++ {
		if got := impl.ValidHistory(history(oneKeyLog()[:1], moment)); got != (moment >= 1 && moment <= 1000) {
			t.Errorf("ValidHistory of an entry at %d = %v", moment, got)
		}
		if got := impl.ValidHistory(history(oneKeyLog()[:2], 500, moment)); got != (moment >= 500 && moment <= 1000) {
			t.Errorf("ValidHistory of entries at 500 and %d = %v", moment, got)
		}
	}
}

func TestValidHistoryOfAllSizes(t *testing.T) {
	log := slices.Repeat([]impl.Entry{putFlat(7, 3), drop(7)}, impl.MaxEntries)
	for size := range len(log) + 1 {
		for extra := -2; extra <= 2; extra++ {
			if size+extra < 0 {
				continue
			}
			h := history(log[:size], stepTimes(1, 3, size+extra)...)
			if got := impl.ValidHistory(h); got != (extra == 0 && size <= 32) {
				t.Errorf("ValidHistory of %d entries and %d times = %v", size, size+extra, got)
			}
		}
	}
}

func TestValidHistoryInvalid(t *testing.T) {
	for _, h := range badHistories() {
		if impl.ValidHistory(h) {
			t.Errorf("ValidHistory(%v) = true", h)
		}
	}
}

func TestStoreAtOrdinary(t *testing.T) {
	one, other, tagged := item(5, flat(1), 1), item(2, vec(1, -2, 3, -4), 2), item(5, flat(1), 3)
	h := history([]impl.Entry{put(one), put(other), put(tagged), drop(2), put(one), drop(5)}, 10, 10, 20, 20, 30, 1000)
	for _, c := range []struct {
		moment int
		want   []impl.Item
	}{
		{0, nil}, {1, nil}, {9, nil},
		{10, []impl.Item{other, one}}, {11, []impl.Item{other, one}}, {19, []impl.Item{other, one}},
		{20, []impl.Item{tagged}}, {21, []impl.Item{tagged}}, {29, []impl.Item{tagged}},
		{30, []impl.Item{one}}, {31, []impl.Item{one}}, {999, []impl.Item{one}},
		{1000, nil},
	} {
		if got := impl.StoreAt(h, c.moment); !sameItems(got, c.want) {
			t.Errorf("StoreAt(%v, %d) = %v, not %v", h, c.moment, got, c.want)
		}
	}
	for _, empty := range []impl.History{{}, {Log: []impl.Entry{}, Times: []int{}}} {
		for _, moment := range vec(0, 1, 500, impl.MaxTime) {
			if got := impl.StoreAt(empty, moment); len(got) != 0 {
				t.Errorf("StoreAt no entries, at %d, = %v", moment, got)
			}
		}
	}
}

func TestStoreAtAll(t *testing.T) {
	full := 0
	eachMoment(func(h impl.History, moment int) {
		got, want := impl.StoreAt(h, moment), wantStoreAt(h, moment)
		if !sameItems(got, want) {
			t.Errorf("StoreAt(%v, %d) = %v, not %v", h, moment, got, want)
		}
		if len(got) == impl.MaxItems {
			full++
		}
	})
	if full < 5 {
		t.Errorf("only %d stores are full", full)
	}
}

func TestStoreAtOfAllKeys(t *testing.T) {
	for key := 1; key <= impl.MaxKey; key++ {
		other := key%impl.MaxKey + 1
		h := history([]impl.Entry{putFlat(key, 1), putFlat(other, 2), drop(key)}, 1, 2, 3)
		for moment := range 5 {
			if got, want := impl.StoreAt(h, moment), wantStoreAt(h, moment); !sameItems(got, want) {
				t.Errorf("StoreAt(%v, %d) = %v, not %v", h, moment, got, want)
			}
			if got, want := impl.ChangedKeys(h, 2, moment), wantChanged(h, 2, moment); !slices.Equal(got, want) {
				t.Errorf("ChangedKeys(%v, 2, %d) = %v, not %v", h, moment, got, want)
			}
		}
	}
}

func TestStoreAtInvalid(t *testing.T) {
	check := func(h impl.History, moment int) {
		if got := impl.StoreAt(h, moment); len(got) != 0 {
			t.Errorf("StoreAt(%v, %d) = %v", h, moment, got)
		}
	}
	for _, h := range sampleHistories() {
		for _, moment := range badMoments() {
			check(h, moment)
		}
	}
	for _, h := range badHistories() {
		for _, moment := range vec(-1, 0, 1, 8, 50, impl.MaxTime, impl.MaxTime+1) {
			check(h, moment)
		}
	}
}

func TestAddEntryOrdinary(t *testing.T) {
	one, two := putFlat(1, 1), putFlat(2, 2)
	h := history([]impl.Entry{one, two}, 5, 9)
	for _, c := range []struct {
		h      impl.History
		e      impl.Entry
		moment int
		ok     bool
	}{
		{impl.History{}, one, 1, true}, {impl.History{}, one, 1000, true}, {impl.History{}, one, 0, false}, {impl.History{}, one, 1001, false}, {impl.History{}, one, -1, false},
		{impl.History{}, drop(1), 1, false},
		{h, putFlat(3, 3), 9, true}, {h, putFlat(3, 3), 10, true}, {h, putFlat(3, 3), 1000, true},
		{h, putFlat(3, 3), 8, false}, {h, putFlat(3, 3), 5, false}, {h, putFlat(3, 3), 1, false}, {h, putFlat(3, 3), 1001, false},
		{h, one, 9, true}, {h, drop(1), 9, true}, {h, drop(2), 12, true}, {h, drop(3), 12, false},
		{h, impl.Entry{}, 9, false}, {h, impl.Entry{Kind: 3, Item: one.Item}, 9, false}, {h, drop(0), 9, false}, {h, put(item(100, flat(1), 1)), 9, false},
		{h, impl.Entry{Kind: impl.EntryDrop, Item: one.Item}, 9, false},
	} {
		var want impl.History
		if c.ok {
			want = history(append(slices.Clone(c.h.Log), c.e), append(slices.Clone(c.h.Times), c.moment)...)
		}
		if got, ok := impl.AddEntry(c.h, c.e, c.moment); ok != c.ok || !sameHistory(got, want) {
			t.Errorf("AddEntry(%v, %v, %d) = %v, %v, not %v", c.h, c.e, c.moment, got, ok, want)
		}
	}
}

func TestAddEntryOneByOne(t *testing.T) {
	// From no entry to as many as possible, and then no further.
	var h impl.History
	log := slices.Concat(fillLog(), []impl.Entry{putFlat(1, 1)})
	for i, e := range log {
		next, ok := impl.AddEntry(h, e, 10+i/3)
		if ok != (i < impl.MaxEntries) {
			t.Fatalf("AddEntry of the entry %d = %v, %v", i, next, ok)
		}
		if ok {
			h = next
		} else if !noHistory(next) {
			t.Errorf("AddEntry of the entry %d = %v", i, next)
		}
	}
	if !sameLog(h.Log, fillLog()) || h.Times[0] != 10 || h.Times[31] != 20 {
		t.Errorf("AddEntry of %d entries = %v", len(log), h)
	}
}

func TestAddEntryToFullStores(t *testing.T) {
	h := history(fillLog()[:16], stepTimes(1, 1, 16)...)
	for key := 1; key <= impl.MaxKey; key++ {
		_, ok := impl.AddEntry(h, putFlat(key, 1), 16)
		if there := key%6 == 0 && key <= 96; ok != there {
			t.Errorf("AddEntry of a put of %d to a full store = %v", key, ok)
		}
	}
}

func TestAddEntryAll(t *testing.T) {
	added, failed := 0, 0
	eachAdded(func(h impl.History, e impl.Entry, moment int) {
		got, ok := impl.AddEntry(h, e, moment)
		want, wantOK := wantAddEntry(h, e, moment)
		if ok != wantOK || !sameHistory(got, want) {
			t.Errorf("AddEntry(%v, %v, %d) = %v, %v, not %v, %v", h, e, moment, got, ok, want, wantOK)
		}
		if ok {
			added++
		} else {
			failed++
		}
	})
	if added < 100 || failed < 100 {
		t.Errorf("%d entries can be added and %d cannot", added, failed)
	}
}

func TestAddEntryInvalid(t *testing.T) {
	check := func(h impl.History, e impl.Entry, moment int) {
		if got, ok := impl.AddEntry(h, e, moment); ok || !noHistory(got) {
			t.Errorf("AddEntry(%v, %v, %d) = %v, %v", h, e, moment, got, ok)
		}
	}
	for _, h := range badHistories() {
		for _, moment := range vec(0, 1, max(1, lastTime(h)), impl.MaxTime) {
			check(h, putFlat(1, 1), moment)
			check(h, drop(1), moment)
		}
	}
	for _, h := range longHistories() {
		for _, e := range entriesToAdd(h) {
			check(h, e, lastTime(h))
			check(h, e, impl.MaxTime)
		}
	}
	for _, h := range sampleHistories() {
		for _, e := range badEntries() {
			check(h, e, max(1, lastTime(h)))
			check(h, e, impl.MaxTime)
		}
	}
	// Too few entries or times do not become enough.
	check(history(oneKeyLog()[:2], 1), drop(64), 2)
	check(history(oneKeyLog()[:1], 1, 1), drop(64), 2)
	check(history(nil, 1), putFlat(1, 1), 1)
}

func TestRollBackOrdinary(t *testing.T) {
	h := history(oneKeyLog()[:5], 5, 5, 9, 9, 1000)
	for moment, many := range map[int]int{0: 0, 1: 0, 4: 0, 5: 2, 6: 2, 8: 2, 9: 4, 10: 4, 999: 4, 1000: 5} {
		got, ok := impl.RollBack(h, moment)
		if want := history(h.Log[:many], h.Times[:many]...); !ok || !sameHistory(got, want) {
			t.Errorf("RollBack(%v, %d) = %v, %v, not %v", h, moment, got, ok, want)
		}
		if got, ok := impl.RollBack(impl.History{}, moment); !ok || !noHistory(got) {
			t.Errorf("RollBack of no entries to %d = %v, %v", moment, got, ok)
		}
	}
}

func TestRollBackAll(t *testing.T) {
	eachMoment(func(h impl.History, moment int) {
		if got, ok := impl.RollBack(h, moment); !ok || !sameHistory(got, wantRollBack(h, moment)) {
			t.Errorf("RollBack(%v, %d) = %v, %v", h, moment, got, ok)
		}
	})
}

func TestRollBackInvalid(t *testing.T) {
	check := func(h impl.History, moment int) {
		if got, ok := impl.RollBack(h, moment); ok || !noHistory(got) {
			t.Errorf("RollBack(%v, %d) = %v, %v", h, moment, got, ok)
		}
	}
	for _, h := range sampleHistories() {
		for _, moment := range badMoments() {
			check(h, moment)
		}
	}
	// A history is not valid even if only entries are wrong that would go, or none would be left.
	for _, h := range badHistories() {
		for _, moment := range vec(-1, 0, 1, 8, 50, impl.MaxTime, impl.MaxTime+1) {
			check(h, moment)
		}
	}
}

func TestChangedKeysOrdinary(t *testing.T) {
	one, other, tagged := item(5, flat(1), 1), item(2, vec(1, -2, 3, -4), 2), item(5, flat(1), 3)
	moved := item(5, vec(1, 1, 1, 2), 3)
	h := history([]impl.Entry{put(one), put(other), put(tagged), put(moved), drop(2), put(one), put(other), put(other)}, 10, 11, 20, 30, 40, 50, 60, 70)
	for _, c := range []struct {
		a, b int
		want []int
	}{
		{0, 0, nil}, {0, 9, nil}, {0, 10, vec(5)}, {0, 11, vec(2, 5)}, {0, 40, vec(5)}, {0, 1000, vec(2, 5)},
		{10, 11, vec(2)}, {10, 20, vec(2, 5)},
		// Tags alone, one coordinate alone, and both.
		{11, 20, vec(5)}, {20, 30, vec(5)}, {11, 30, vec(5)},
		{30, 40, vec(2)}, {11, 40, vec(2, 5)},
		// Back to what it was, and put again as it is.
		{10, 50, nil}, {11, 50, vec(2)}, {11, 60, nil}, {11, 70, nil}, {60, 70, nil}, {70, 1000, nil}, {20, 29, nil},
		{40, 60, vec(2, 5)}, {1000, 1000, nil},
	} {
		for _, way := range [][2]int{{c.a, c.b}, {c.b, c.a}} {
			if got := impl.ChangedKeys(h, way[0], way[1]); !slices.Equal(got, c.want) {
				t.Errorf("ChangedKeys(%v, %d, %d) = %v, not %v", h, way[0], way[1], got, c.want)
			}
		}
	}
	if got := impl.ChangedKeys(impl.History{}, 0, impl.MaxTime); len(got) != 0 {
		t.Errorf("ChangedKeys of no entries = %v", got)
	}
}

func TestChangedKeysAll(t *testing.T) {
	none, one, many := 0, 0, 0
	eachTwoMoments(func(h impl.History, a int, b int) {
		got, want := impl.ChangedKeys(h, a, b), wantChanged(h, a, b)
		if !slices.Equal(got, want) {
			t.Errorf("ChangedKeys(%v, %d, %d) = %v, not %v", h, a, b, got, want)
		}
		switch len(got) {
		case 0:
			none++
		case 1:
			one++
		default:
			many++
		}
	})
	if none < 100 || one < 100 || many < 100 {
		t.Errorf("%d pairs of times have no changed key, %d one and %d several", none, one, many)
	}
}

func TestChangedKeysOfAsManyAsPossible(t *testing.T) {
	// A full store becomes another one with other keys: there are no more entries than that.
	full := fullStore()
	var log []impl.Entry
	var want []int
	for _, x := range full {
		log = append(log, put(x))
		want = append(want, x.Key)
	}
	for _, x := range full[:8] {
		log = append(log, drop(x.Key), putFlat(x.Key+1, 4))
		want = append(want, x.Key+1)
	}
	slices.Sort(want)
	h := history(log, append(slices.Repeat(vec(3), 16), slices.Repeat(vec(7), 16)...)...)
	changed := slices.DeleteFunc(slices.Clone(want), func(key int) bool { return key > 49 })
	if got := impl.ChangedKeys(h, 3, 7); len(got) != 16 || !slices.Equal(got, changed) {
		t.Errorf("ChangedKeys(%v, 3, 7) = %v, not %v", h, got, changed)
	}
	if got := impl.ChangedKeys(h, 7, 0); len(got) != 16 || !slices.Equal(got, keysOf(wantStoreAt(h, 7))) {
		t.Errorf("ChangedKeys(%v, 7, 0) = %v", h, got)
	}
}

func TestChangedKeysInvalid(t *testing.T) {
	check := func(h impl.History, a int, b int) {
		if got := impl.ChangedKeys(h, a, b); len(got) != 0 {
			t.Errorf("ChangedKeys(%v, %d, %d) = %v", h, a, b, got)
		}
	}
	for _, h := range sampleHistories() {
		for _, bad := range badMoments() {
			for _, moment := range vec(0, 1, lastTime(h), impl.MaxTime, bad) {
				check(h, bad, moment)
				check(h, moment, bad)
			}
		}
	}
	for _, h := range badHistories() {
		check(h, 0, impl.MaxTime)
		check(h, impl.MaxTime, 0)
		check(h, 0, 8)
		check(h, 7, 50)
		check(h, 0, -1)
	}
}

func TestHistoryArgumentsAreNotChanged(t *testing.T) {
	for _, sample := range append(sampleHistories(), badHistories()...) {
		h, e := roomyHistory(sample), put(item(3, roomy(flat(9)), 4))
		wantHistory, wantEntry := cloneHistory(h), cloneLog([]impl.Entry{e})
		impl.ValidHistory(h)
		impl.StoreAt(h, 8)
		impl.StoreAt(h, impl.MaxTime)
		impl.AddEntry(h, e, max(1, lastTime(h)))
		impl.AddEntry(h, e, impl.MaxTime)
		impl.AddEntry(h, drop(1), impl.MaxTime)
		impl.RollBack(h, 8)
		impl.RollBack(h, impl.MaxTime)
		impl.ChangedKeys(h, 2, 40)
		if !sameHistoryMemory(h, wantHistory) || !sameLogMemory([]impl.Entry{e}, wantEntry) {
			t.Errorf("arguments are changed: %v, %v, %v", h.Log[:cap(h.Log)], h.Times[:cap(h.Times)], e)
		}
	}
}

// checkFreshHistory tells if a history shares memory with another one or with some vectors, or if its own slices share memory.
func checkFreshHistory(t *testing.T, name string, out impl.History, other impl.History, more ...[]int) {
	t.Helper()
	more = append(more, other.Times)
	checkFreshLog(t, name, out.Log, other.Log, more...)
	for _, v := range slices.Concat(more, vectorsOf(itemsIn(other.Log[:cap(other.Log)])), vectorsOf(itemsIn(out.Log[:cap(out.Log)]))) {
		if overlap(out.Times, v) {
			t.Errorf("%s shares its times", name)
		}
	}
}

func TestHistoryResultsAreFresh(t *testing.T) {
	for _, sample := range sampleHistories() {
		h := roomyHistory(sample)
		given := append(vectorsOf(itemsIn(h.Log[:cap(h.Log)])), h.Times)
		for _, moment := range fewMoments(h) {
			store, again := impl.StoreAt(h, moment), impl.StoreAt(h, moment)
			checkFresh(t, "StoreAt", store, again, given...)
			back, backAgain := rolledBack(t, h, moment), rolledBack(t, h, moment)
			checkFreshHistory(t, "RollBack", back, h)
			checkFreshHistory(t, "RollBack twice", back, backAgain)
			keys := impl.ChangedKeys(h, moment, 1)
			for _, v := range append(given, impl.ChangedKeys(h, moment, 1)) {
				if overlap(keys, v) {
					t.Errorf("ChangedKeys(%v, %d, 1) shares %v", h, moment, v)
				}
			}
		}
		for _, e := range entriesToAdd(h) {
			e.Item.At = roomy(e.Item.At)
			once, ok := impl.AddEntry(h, e, impl.MaxTime)
			if twice, _ := impl.AddEntry(h, e, impl.MaxTime); ok {
				checkFreshHistory(t, "AddEntry", once, h, e.Item.At)
				checkFreshHistory(t, "AddEntry twice", once, twice)
			}
		}
	}
}

func TestHistoryResultsHaveVectorsOfTheirOwn(t *testing.T) {
	// The entries of a history and its times may have memory together, those of a result may not.
	at := roomy(flat(3))
	h := impl.History{Log: []impl.Entry{put(item(1, at, 1)), put(item(2, at, 2)), put(item(4, at, 6)), put(item(1, at, 1))}, Times: at}
	e := put(item(3, at, 3))
	next, ok := impl.AddEntry(h, e, 3)
	if !ok || len(next.Log) != 5 || len(next.Times) != 5 {
		t.Fatalf("AddEntry(%v, %v, 3) = %v, %v", h, e, next, ok)
	}
	checkFreshHistory(t, "AddEntry", next, h, at)
	back, ok := impl.RollBack(h, 3)
	if !ok || !sameHistory(back, h) {
		t.Fatalf("RollBack(%v, 3) = %v, %v", h, back, ok)
	}
	checkFreshHistory(t, "RollBack", back, h, at)
	store := impl.StoreAt(h, 3)
	if len(store) != 3 {
		t.Fatalf("StoreAt(%v, 3) = %v", h, store)
	}
	checkFresh(t, "StoreAt", store, itemsIn(h.Log), at)
}

func TestHistoryResultsKeepNothing(t *testing.T) {
	h := spreadHistory(9, impl.MaxEntries-1, 40)
	for range 2 {
		e := putFlat(wantStoreAt(h, impl.MaxTime)[0].Key, 5)
		store, keys := impl.StoreAt(h, 20), impl.ChangedKeys(h, 10, 30)
		next, added := impl.AddEntry(h, e, 40)
		back, ok := impl.RollBack(h, 20)
		want, _ := wantAddEntry(h, e, 40)
		if !added || !ok || !sameItems(store, wantStoreAt(h, 20)) || !slices.Equal(keys, wantChanged(h, 10, 30)) || !sameHistory(next, want) || !sameHistory(back, wantRollBack(h, 20)) {
			t.Fatalf("of %v StoreAt = %v, ChangedKeys = %v, AddEntry = %v, RollBack = %v", h, store, keys, next, back)
		}
		// What is done to a result does not come back in the next one.
		for _, x := range slices.Concat(store, itemsIn(next.Log), itemsIn(back.Log)) {
			clear(x.At)
		}
		clear(store)
		clear(keys)
		for _, g := range []impl.History{next, back} {
			clear(g.Log)
			clear(g.Times)
		}
	}
}
