package tests

import (
	"slices"
	"testing"

	"loop.example/vectorstore/impl"
)

// history returns a history of some entries with their times.
func history(log []impl.Entry, times ...int) impl.History {
	return impl.History{Log: log, Times: times}
}

// spreadTimes returns times in 1..most that do not fall.
func spreadTimes(seed uint64, size int, most int) []int {
	number := numbers(seed)
	out := make([]int, 0, size)
	for range size {
		out = append(out, number(1, most))
	}
	slices.Sort(out)
	return out
}

// spreadHistory returns a valid history with some entries at times in 1..most.
func spreadHistory(seed uint64, size int, most int) impl.History {
	return history(doableLog(seed, nil, size), spreadTimes(seed+1, size, most)...)
}

// stepTimes returns times with the same step between each two.
func stepTimes(first int, step int, size int) []int {
	var out []int
	for i := range size {
		out = append(out, first+i*step)
	}
	return out
}

// fillLog returns the entries that put the items of a full store, the last one first, and then drop them, the first one first.
func fillLog() []impl.Entry {
	var out []impl.Entry
	for _, x := range slices.Backward(fullStore()) {
		out = append(out, put(x))
	}
	for _, x := range fullStore() {
		out = append(out, drop(x.Key))
	}
	return out
}

// oneKeyLog returns entries of one key: of items that differ in their tags alone, in one coordinate alone or not at all, and drops.
func oneKeyLog() []impl.Entry {
	one := item(64, flat(1), 1)
	tagged, moved := item(64, flat(1), 9), item(64, vec(1, 1, 1, 2), 1)
	return []impl.Entry{put(one), put(tagged), put(one), put(moved), put(one), put(one), drop(64), put(one), drop(64), put(tagged)}
}

// sampleHistories returns valid histories: without entries, with one, with as many as possible, with equal times at the beginning, in the middle and at the end, and with times at their limits.
func sampleHistories() []impl.History {
	first, last := putFlat(1, 1), putFlat(99, 2)
	three := []impl.Entry{first, last, drop(1)}
	out := []impl.History{
		{}, {Log: []impl.Entry{}, Times: []int{}}, {Log: nil, Times: []int{}},
		history([]impl.Entry{first}, 1), history([]impl.Entry{first}, 500), history([]impl.Entry{last}, impl.MaxTime),
		history([]impl.Entry{{Kind: impl.EntryPut, Item: item(50, flat(0), 0)}, {Kind: impl.EntryDrop, Item: item(50, []int{}, 0)}}, 2, 3),
		history(three, 1, 1, 1), history(three, 5, 5, 9), history(three, 5, 9, 9), history(three, 5, 6, 7), history(three, 1, 500, impl.MaxTime),
		history(three, 1, impl.MaxTime, impl.MaxTime), history(three, impl.MaxTime, impl.MaxTime, impl.MaxTime),
		history(oneKeyLog(), stepTimes(10, 10, 10)...), history(oneKeyLog(), 1, 1, 7, 7, 7, 8, 8, 9, 1000, 1000),
		history(fillLog(), stepTimes(1, 1, 32)...), history(fillLog(), stepTimes(8, 32, 32)...), history(fillLog(), spreadTimes(4, 32, 6)...),
		history(fillLog()[:16], slices.Repeat(vec(77), 16)...), history(fillLog()[:31], slices.Repeat(vec(1), 31)...),
	}
	for i, size := range vec(2, 7, 16, 31, 32) {
		for _, most := range vec(1, 5, 40, impl.MaxTime) {
			out = append(out, spreadHistory(uint64(100*i+most), size, most))
		}
	}
	return out
}

// longHistories returns valid histories to which no entry can be added.
func longHistories() []impl.History {
	var out []impl.History
	for _, h := range sampleHistories() {
		if len(h.Log) == impl.MaxEntries {
			out = append(out, h)
		}
	}
	return out
}

// momentsOf returns times for stores of a history: 0 and MaxTime, those of entries, and those before and behind them.
func momentsOf(h impl.History) []int {
	out := vec(0, 1, 2, impl.MaxTime-1, impl.MaxTime)
	for _, t := range h.Times {
		out = append(out, t-1, t, min(t+1, impl.MaxTime))
	}
	slices.Sort(out)
	return slices.Compact(out)
}

// fewMoments returns some of the times for stores of a history, spread over all of them.
func fewMoments(h impl.History) []int {
	all := momentsOf(h)
	step := (len(all) + 9) / 10
	var out []int
	for i := 0; i < len(all); i += step {
		out = append(out, all[i])
	}
	if out[len(out)-1] != impl.MaxTime {
		out = append(out, impl.MaxTime)
	}
	return out
}

// eachMoment calls a function for all sample histories with times for their stores.
func eachMoment(f func(h impl.History, t int)) {
	for _, h := range sampleHistories() {
		for _, t := range momentsOf(h) {
			f(h, t)
		}
	}
}

// eachTwoMoments calls a function for all sample histories with pairs of times for their stores, in both orders.
func eachTwoMoments(f func(h impl.History, a int, b int)) {
	for _, h := range sampleHistories() {
		moments := fewMoments(h)
		for _, a := range moments {
			for _, b := range moments {
				f(h, a, b)
			}
		}
	}
}

// entriesToAdd returns valid entries for the end of a history: such as can be done there, and such as cannot.
func entriesToAdd(h impl.History) []impl.Entry {
	now := wantStoreAt(h, impl.MaxTime)
	out := append(failingEntries(now), put(item(1, flat(-100), 0)), put(item(99, flat(100), 15)), drop(1))
	if len(now) > 0 {
		key := now[len(now)/2].Key
		out = append(out, putFlat(key, -7), drop(key))
	}
	return out
}

// timesToAdd returns times for an entry more, among them the one of the last entry, earlier and later ones, and some that no entry can have.
func timesToAdd(h impl.History) []int {
	last := lastTime(h)
	return append(badMoments(), 0, 1, 2, last-1, last, last+1, last+2, impl.MaxTime-1, impl.MaxTime)
}

// eachAdded calls a function for all sample histories with entries to add, and times for them.
func eachAdded(f func(h impl.History, e impl.Entry, t int)) {
	for _, h := range sampleHistories() {
		for _, e := range entriesToAdd(h) {
			for _, t := range timesToAdd(h) {
				f(h, e, t)
			}
		}
	}
}

// badMoments returns times at which there is no store, and no entry.
func badMoments() []int {
	return append(badNumbers(), impl.MaxTime+1, impl.MaxTime+2, -impl.MaxTime)
}

// badHistories returns histories that are not valid, most of them for one reason alone.
func badHistories() []impl.History {
	return slices.Concat(unevenHistories(), wrongTimes(), fallingTimes(), wrongLogs())
}

// unevenHistories returns histories with another number of times than of entries.
func unevenHistories() []impl.History {
	out := []impl.History{history(nil, 1), history(nil, stepTimes(1, 1, 32)...)}
	for i, size := range vec(1, 2, 8, 16, 31, 32) {
		h := spreadHistory(uint64(300+i), size, 90)
		out = append(out,
			history(h.Log), history(h.Log, h.Times[1:]...), history(h.Log, h.Times[:size-1]...),
			history(h.Log, append(slices.Clone(h.Times), 90)...), history(h.Log, append(vec(1), h.Times...)...),
			history(h.Log[:size-1], h.Times...),
		)
	}
	return out
}

// wrongTimes returns histories with times that no entry can have, which do not fall if that is possible.
func wrongTimes() []impl.History {
	var out []impl.History
	for i, size := range vec(1, 2, 9, 32) {
		h := spreadHistory(uint64(310+i), size, impl.MaxTime)
		for _, wrong := range append(badMoments(), 0) {
			for _, place := range vec(0, size/2, size-1) {
				times := slices.Clone(h.Times)
				times[place] = wrong
				out = append(out, history(h.Log, times...))
			}
			out = append(out, history(h.Log, slices.Repeat(vec(wrong), size)...))
		}
	}
	return out
}

// fallingTimes returns histories whose times fall once, at any place.
func fallingTimes() []impl.History {
	out := []impl.History{history(oneKeyLog()[:2], 2, 1), history(oneKeyLog()[:2], 1000, 999), history(oneKeyLog()[:3], 5, 4, 9)}
	for i := 1; i < impl.MaxEntries; i++ {
		times := stepTimes(20, 20, 32)
		times[i] = times[i-1] - 1
		out = append(out, history(fillLog(), times...))
		times = append(slices.Repeat(vec(8), i), slices.Repeat(vec(7), impl.MaxEntries-i)...)
		out = append(out, history(fillLog(), times...))
	}
	return out
}

// wrongLogs returns histories whose logs are not valid, or whose entries cannot all be done.
func wrongLogs() []impl.History {
	var out []impl.History
	add := func(log []impl.Entry) {
		out = append(out, history(log, spreadTimes(5, len(log), 50)...))
	}
	for i, e := range badEntries() {
		log := doableLog(uint64(400+i), nil, impl.MaxEntries-1)
		add([]impl.Entry{e})
		for _, place := range vec(0, 9, len(log)) {
			add(slices.Insert(slices.Clone(log), place, e))
		}
	}
	for i := range uint64(4) {
		for _, log := range stoppedLogs(420+i, nil) {
			add(log)
		}
	}
	var puts []impl.Entry
	for key := 1; key <= impl.MaxItems+1; key++ {
		puts = append(puts, putFlat(key, key))
	}
	add(puts)
	add([]impl.Entry{drop(1)})
	add([]impl.Entry{putFlat(1, 1), drop(1), drop(1)})
	add([]impl.Entry{putFlat(1, 1), drop(2)})
	for _, size := range vec(33, 34, 64) {
		add(doableLog(430, nil, size))
		add(slices.Repeat([]impl.Entry{putFlat(1, 1)}, size))
	}
	return out
}

// lastTime returns the time of the last entry of a history, or 0 if there is none.
func lastTime(h impl.History) int {
	if len(h.Times) == 0 {
		return 0
	}
	return h.Times[len(h.Times)-1]
}

// wantStoreAt returns the store of a valid history at a time, entry by entry.
func wantStoreAt(h impl.History, t int) []impl.Item {
	items := map[int]impl.Item{}
	for i, e := range h.Log {
		switch {
		case h.Times[i] > t:
		case e.Kind == impl.EntryDrop:
			delete(items, e.Item.Key)
		default:
			items[e.Item.Key] = e.Item
		}
	}
	return inKeyOrder(items)
}

// wantRollBack returns a valid history with those entries alone that were there at a time.
func wantRollBack(h impl.History, t int) impl.History {
	var out impl.History
	for i, e := range h.Log {
		if h.Times[i] <= t {
			out.Log, out.Times = append(out.Log, e), append(out.Times, h.Times[i])
		}
	}
	return out
}

// wantAddEntry returns a valid history with an entry more, and whether this one is valid, where the entry itself and its time are known to be.
func wantAddEntry(h impl.History, e impl.Entry, t int) (impl.History, bool) {
	_, done := wantReplay(wantStoreAt(h, impl.MaxTime), []impl.Entry{e})
	if done == 0 || t < max(lastTime(h), 1) || t > 1000 || len(h.Log) == 32 {
		return impl.History{}, false
	}
	return history(append(slices.Clone(h.Log), e), append(slices.Clone(h.Times), t)...), true
}

// wantChanged returns the keys of the items that differ in the stores of a valid history at two times, key by key.
func wantChanged(h impl.History, a int, b int) []int {
	first, second := itemsOf(wantStoreAt(h, a)), itemsOf(wantStoreAt(h, b))
	var out []int
	for key := 1; key <= impl.MaxKey; key++ {
		x, inFirst := first[key]
		y, inSecond := second[key]
		if inFirst != inSecond || !sameItem(x, y) {
			out = append(out, key)
		}
	}
	return out
}

// sameHistory reports whether two histories are equal.
func sameHistory(a impl.History, b impl.History) bool {
	return sameLog(a.Log, b.Log) && slices.Equal(a.Times, b.Times)
}

// noHistory reports whether a history is the zero value, where nil and an empty slice are the same.
func noHistory(h impl.History) bool {
	return sameHistory(h, impl.History{})
}

// roomyHistory returns a copy of a history with entries and numbers in all spare capacities.
func roomyHistory(h impl.History) impl.History {
	return impl.History{Log: roomyLog(h.Log), Times: roomy(h.Times)}
}

// cloneHistory returns a history with memory of its own, as much as fits into the capacities.
func cloneHistory(h impl.History) impl.History {
	return impl.History{Log: cloneLog(h.Log), Times: slices.Clone(h.Times[:cap(h.Times)])[:len(h.Times)]}
}

// sameHistoryMemory reports whether two histories are equal as far as their capacities go.
func sameHistoryMemory(a impl.History, b impl.History) bool {
	return sameLogMemory(a.Log, b.Log) && slices.Equal(a.Times[:cap(a.Times)], b.Times[:cap(b.Times)])
}

// storeAt returns StoreAt a time of a valid history, which has to be a valid store.
func storeAt(t *testing.T, h impl.History, moment int) []impl.Item {
	t.Helper()
	out := impl.StoreAt(h, moment)
	if !impl.ValidHistory(h) || !impl.ValidStore(out) {
		t.Fatalf("StoreAt(%v, %d) = %v", h, moment, out)
	}
	return out
}

// rolledBack returns RollBack of a valid history, which has to be a valid one.
func rolledBack(t *testing.T, h impl.History, moment int) impl.History {
	t.Helper()
	out, ok := impl.RollBack(h, moment)
	if !ok || !impl.ValidHistory(out) {
		t.Fatalf("RollBack(%v, %d) = %v, %v", h, moment, out, ok)
	}
	return out
}
