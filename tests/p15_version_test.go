package tests

import (
	"slices"
	"testing"

	"loop.example/vectorstore/impl"
)

func TestP119HistoriesHaveBeginnings(t *testing.T) {
	for _, h := range sampleHistories() {
		for size := range len(h.Log) + 1 {
			if first := history(h.Log[:size], h.Times[:size]...); !impl.ValidHistory(first) {
				t.Errorf("ValidHistory(%v) = false", first)
			}
		}
	}
}

func TestP120HistoriesBeginWithNothing(t *testing.T) {
	for _, h := range sampleHistories() {
		if got := storeAt(t, h, 0); len(got) != 0 {
			t.Errorf("StoreAt(%v, 0) = %v", h, got)
		}
		want, done := replayed(t, nil, h.Log)
		if got := storeAt(t, h, impl.MaxTime); done != len(h.Log) || !sameItems(got, want) {
			t.Errorf("StoreAt(%v, %d) = %v, not %v, %d", h, impl.MaxTime, got, want, done)
		}
	}
}

func TestP121NothingChangesBetweenEntries(t *testing.T) {
	check := func(h impl.History, moment int, last []impl.Item) []impl.Item {
		got := storeAt(t, h, moment)
		if !slices.Contains(h.Times, moment) && !sameItems(got, last) {
			t.Errorf("StoreAt(%v, %d) = %v, but at the time before it is %v", h, moment, got, last)
		}
		return got
	}
	// All times of some histories, and those around entries of all.
	for i, h := range sampleHistories() {
		if i%3 != 0 {
			continue
		}
		last := storeAt(t, h, 0)
		for moment := 1; moment <= impl.MaxTime; moment++ {
			last = check(h, moment, last)
		}
	}
	eachMoment(func(h impl.History, moment int) {
		if moment > 0 {
			check(h, moment, storeAt(t, h, moment-1))
		}
	})
}

func TestP122AddedEntriesCountFromTheirTimesOn(t *testing.T) {
	puts, drops := 0, 0
	eachAdded(func(h impl.History, e impl.Entry, moment int) {
		next, ok := impl.AddEntry(h, e, moment)
		if !ok {
			return
		}
		for _, earlier := range fewMoments(h) {
			if earlier < moment && !sameItems(storeAt(t, next, earlier), storeAt(t, h, earlier)) {
				t.Errorf("StoreAt(%v, %d) is not that without %v at %d", next, earlier, e, moment)
			}
		}
		got, there := impl.GetItem(storeAt(t, next, moment), e.Item.Key)
		if e.Kind == impl.EntryPut && (!there || !sameItem(got, e.Item)) || e.Kind == impl.EntryDrop && there {
			t.Errorf("StoreAt(%v, %d) has %v, %v, not %v", next, moment, got, there, e)
		}
		if e.Kind == impl.EntryPut {
			puts++
		} else {
			drops++
		}
	})
	if puts < 50 || drops < 50 {
		t.Errorf("only %d puts and %d drops are added", puts, drops)
	}
}

func TestP123AddedEntriesCanBeRolledBack(t *testing.T) {
	added := 0
	eachAdded(func(h impl.History, e impl.Entry, moment int) {
		next, ok := impl.AddEntry(h, e, moment)
		if !ok {
			return
		}
		for _, earlier := range append(fewMoments(h), moment-1) {
			if earlier >= moment {
				continue
			}
			got, want := rolledBack(t, next, earlier), rolledBack(t, h, earlier)
			if !sameHistory(got, want) || earlier >= lastTime(h) && !sameHistory(got, h) {
				t.Errorf("RollBack(%v, %d) = %v, not %v", next, earlier, got, want)
			}
			added++
		}
	})
	if added < 500 {
		t.Errorf("only %d entries are rolled back", added)
	}
}

func TestP124RolledBackIsAsBefore(t *testing.T) {
	eachTwoMoments(func(h impl.History, moment int, other int) {
		got := storeAt(t, rolledBack(t, h, moment), other)
		if want := storeAt(t, h, min(moment, other)); !sameItems(got, want) {
			t.Errorf("RollBack(%v, %d) has %v at %d, not %v", h, moment, got, other, want)
		}
	})
}

func TestP125RollingBackTwiceIsRollingBackOnce(t *testing.T) {
	eachMoment(func(h impl.History, moment int) {
		once := rolledBack(t, h, moment)
		if twice := rolledBack(t, once, moment); !sameHistory(twice, once) {
			t.Errorf("RollBack(%v, %d) twice = %v, not %v", h, moment, twice, once)
		}
	})
	for _, h := range sampleHistories() {
		if got := rolledBack(t, h, impl.MaxTime); !sameHistory(got, h) {
			t.Errorf("RollBack(%v, %d) = %v", h, impl.MaxTime, got)
		}
	}
}

func TestP126ChangedKeysAreDifferent(t *testing.T) {
	eachTwoMoments(func(h impl.History, a int, b int) {
		keys := impl.ChangedKeys(h, a, b)
		first, second := storeAt(t, h, a), storeAt(t, h, b)
		for key := 1; key <= impl.MaxKey; key++ {
			x, inFirst := impl.GetItem(first, key)
			y, inSecond := impl.GetItem(second, key)
			if differ := inFirst != inSecond || !sameItem(x, y); differ != slices.Contains(keys, key) {
				t.Errorf("ChangedKeys(%v, %d, %d) = %v, but of %d there are %v and %v", h, a, b, keys, key, x, y)
			}
		}
	})
}

func TestP127ChangesAreLogs(t *testing.T) {
	eachTwoMoments(func(h impl.History, a int, b int) {
		keys, log := impl.ChangedKeys(h, a, b), impl.LogBetween(storeAt(t, h, a), storeAt(t, h, b))
		want := keysOf(itemsIn(log))
		slices.Sort(want)
		if !slices.Equal(keys, want) {
			t.Errorf("ChangedKeys(%v, %d, %d) = %v, but LogBetween = %v", h, a, b, keys, log)
		}
	})
}

func TestP173StoresAndLogsAgree(t *testing.T) {
	eachTwoMoments(func(h impl.History, a int, b int) {
		first, second := storeAt(t, h, a), storeAt(t, h, b)
		log := impl.LogBetween(first, second)
		if got, done := replayed(t, first, log); done != len(log) || !sameItems(got, second) {
			t.Errorf("LogBetween the stores of %v at %d and %d = %v, which leads to %v", h, a, b, log, got)
		}
	})
}

func TestP174TimesDoNotFall(t *testing.T) {
	same, none := 0, 0
	for _, h := range sampleHistories() {
		last := lastTime(h)
		for _, e := range entriesToAdd(h) {
			for _, earlier := range vec(1, last/2, last-1) {
				if got, ok := impl.AddEntry(h, e, earlier); earlier < last && (ok || !noHistory(got)) {
					t.Errorf("AddEntry(%v, %v, %d) = %v, %v", h, e, earlier, got, ok)
				}
			}
			if last == 0 {
				continue
			}
			_, now := impl.AddEntry(h, e, last)
			for _, moment := range vec(last+1, last+2, impl.MaxTime) {
				if _, later := impl.AddEntry(h, e, moment); moment <= impl.MaxTime && later != now {
					t.Errorf("AddEntry(%v, %v) at %d = %v, and at %d = %v", h, e, last, now, moment, later)
				}
			}
			if now {
				same++
			} else {
				none++
			}
		}
	}
	if same < 50 || none < 50 {
		t.Errorf("%d entries can be added at the last time, and %d cannot", same, none)
	}
}

func TestP175WhatIsRolledBackCanBeMadeAnew(t *testing.T) {
	eachMoment(func(h impl.History, moment int) {
		got := rolledBack(t, h, moment)
		for i := len(got.Log); i < len(h.Log); i++ {
			next, ok := impl.AddEntry(got, h.Log[i], h.Times[i])
			if !ok {
				t.Fatalf("AddEntry(%v, %v, %d) fails behind RollBack to %d", got, h.Log[i], h.Times[i], moment)
			}
			got = next
		}
		if !sameHistory(got, h) {
			t.Errorf("AddEntry of all later entries behind RollBack(%v, %d) = %v", h, moment, got)
		}
	})
}

func TestP176NothingChangesInNoTime(t *testing.T) {
	eachMoment(func(h impl.History, moment int) {
		if got := impl.ChangedKeys(h, moment, moment); len(got) != 0 {
			t.Errorf("ChangedKeys(%v, %d, %d) = %v", h, moment, moment, got)
		}
		want := keysOf(storeAt(t, h, moment))
		if got := impl.ChangedKeys(h, 0, moment); !slices.Equal(got, want) {
			t.Errorf("ChangedKeys(%v, 0, %d) = %v, not %v", h, moment, got, want)
		}
	})
}
