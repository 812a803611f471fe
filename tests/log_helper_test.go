package tests

import (
	"slices"
	"testing"

	"loop.example/vectorstore/impl"
)

// put returns an entry that puts an item.
func put(x impl.Item) impl.Entry {
	return impl.Entry{Kind: impl.EntryPut, Item: x}
}

// drop returns an entry that drops the item with a key.
func drop(key int) impl.Entry {
	return impl.Entry{Kind: impl.EntryDrop, Item: impl.Item{Key: key}}
}

// putFlat returns an entry that puts an item whose coordinates are all the same.
func putFlat(key int, c int) impl.Entry {
	return put(item(key, flat(c), key%16))
}

// spreadItem returns an item with a key, whose coordinates and tags are spread without a pattern.
func spreadItem(number func(low int, high int) int, key int) impl.Item {
	return item(key, vec(number(-100, 100), number(-100, 100), number(-100, 100), number(-100, 100)), number(0, 15))
}

// keyBeside returns a key that a list of keys does not have.
func keyBeside(number func(low int, high int) int, keys []int) int {
	key := number(1, 24)
	for slices.Contains(keys, key) {
		key = key%impl.MaxKey + 1
	}
	return key
}

// doableLog returns a log with some entries, all of which can be done for a store: puts of keys that are there and of others, and drops.
func doableLog(seed uint64, list []impl.Item, size int) []impl.Entry {
	number, keys := numbers(seed), keysOf(list)
	var out []impl.Entry
	for len(out) < size {
		choice, place := number(0, 3), 0
		if len(keys) > 0 {
			place = number(0, len(keys)-1)
		}
		switch {
		case choice == 0 && len(keys) > 0:
			out = append(out, drop(keys[place]))
			keys = slices.Delete(keys, place, place+1)
		case choice == 1 && len(keys) > 0:
			out = append(out, put(spreadItem(number, keys[place])))
		case choice >= 2 && len(keys) < impl.MaxItems:
			key := keyBeside(number, keys)
			out = append(out, put(spreadItem(number, key)))
			keys = append(keys, key)
		}
	}
	return out
}

// spreadLog returns a valid log with some entries of keys in 1..most, of which nobody knows whether they can be done.
func spreadLog(seed uint64, size int, most int) []impl.Entry {
	number := numbers(seed)
	out := make([]impl.Entry, 0, size)
	for range size {
		if number(0, 2) == 0 {
			out = append(out, drop(number(1, most)))
		} else {
			out = append(out, put(spreadItem(number, number(1, most))))
		}
	}
	return out
}

// sampleLogs returns valid logs: none, one and as many entries as possible, puts, drops and both, of one key and of many.
func sampleLogs() [][]impl.Entry {
	var puts, drops, turns []impl.Entry
	for i := range impl.MaxEntries {
		puts = append(puts, putFlat(3*i+1, i))
		drops = append(drops, drop(99-3*i))
		if i%2 == 0 {
			turns = append(turns, putFlat(50, i))
		} else {
			turns = append(turns, drop(50))
		}
	}
	out := [][]impl.Entry{
		nil, {},
		{put(item(1, flat(-100), 0))}, {put(item(99, flat(100), 15))}, {drop(1)}, {drop(99)},
		{drop(1), drop(1)}, {putFlat(1, 1), drop(1), putFlat(1, 2)},
		{{Kind: impl.EntryDrop, Item: impl.Item{Key: 7, At: []int{}}}, {Kind: impl.EntryDrop, Item: impl.Item{Key: 8, At: roomy(nil)}}},
		puts, puts[:16], puts[:17], drops, turns, turns[1:], turns[:31], slices.Repeat(puts[5:6], impl.MaxEntries),
	}
	for i, size := range vec(2, 3, 5, 9, 16, 31, 32) {
		out = append(out, spreadLog(uint64(70+i), size, 3), spreadLog(uint64(80+i), size, 20), spreadLog(uint64(90+i), size, impl.MaxKey))
	}
	return out
}

// failingEntries returns valid entries that cannot be done for a store: a drop of a key that is not there, and a put of one if there is no room.
func failingEntries(list []impl.Item) []impl.Entry {
	key := keyBeside(numbers(5), keysOf(list))
	out := []impl.Entry{drop(key)}
	if len(list) == impl.MaxItems {
		out = append(out, putFlat(key, 8))
	}
	return out
}

// stoppedLogs returns logs all of whose entries can be done for a store but one: at the beginning, in the middle and at the end.
func stoppedLogs(seed uint64, list []impl.Item) [][]impl.Entry {
	log := doableLog(seed, list, impl.MaxEntries-1)
	var out [][]impl.Entry
	for _, place := range vec(0, 1, 15, len(log)) {
		then, _ := wantReplay(list, log[:place])
		for _, e := range failingEntries(then) {
			out = append(out, slices.Insert(slices.Clone(log), place, e))
		}
	}
	return out
}

// eachReplay calls a function for all sample stores with logs that can be done, with such as stop at an entry, and with all sample logs.
func eachReplay(f func(list []impl.Item, log []impl.Entry)) {
	for i, list := range sampleStores() {
		for _, size := range vec(1, 2, 5, 12, 31, 32) {
			f(list, doableLog(uint64(100*i+size), list, size))
		}
		for _, log := range slices.Concat(stoppedLogs(uint64(100*i+50), list), sampleLogs()) {
			f(list, log)
		}
	}
}

// changedStores returns stores that differ from another one at one item alone: in one coordinate, in the tags, or by its key.
func changedStores(list []impl.Item) [][]impl.Item {
	var out [][]impl.Item
	change := func(i int, f func(x *impl.Item)) {
		other := cloneItems(list)
		f(&other[i])
		out = append(out, other)
	}
	for i := range list {
		for d := range impl.Dims {
			change(i, func(x *impl.Item) { x.At[d] = (x.At[d]+101)%201 - 100 })
		}
		change(i, func(x *impl.Item) { x.Tags ^= 1 })
		change(i, func(x *impl.Item) { x.Tags ^= 8 })
		out = append(out, without(list, i))
	}
	return out
}

// eachTwoStores calls a function for pairs of stores, equal ones, others with the same keys and quite different ones.
func eachTwoStores(f func(a []impl.Item, b []impl.Item)) {
	stores := append(sampleStores(), tieStores()...)
	for _, a := range stores {
		for _, b := range stores {
			f(a, b)
		}
		for _, b := range changedStores(a) {
			f(a, b)
			f(b, a)
		}
	}
}

// badEntries returns entries that are not valid, most of them for one reason alone.
func badEntries() []impl.Entry {
	out := []impl.Entry{{}, {Kind: impl.EntryPut, Item: impl.Item{Key: 5}}, {Kind: impl.EntryPut, Item: impl.Item{Key: 5, At: []int{}, Tags: 3}}}
	for _, kind := range append(badNumbers(), 0, 3, 4) {
		out = append(out, impl.Entry{Kind: kind, Item: item(5, flat(1), 2)}, impl.Entry{Kind: kind, Item: impl.Item{Key: 5}})
	}
	for _, x := range badItems() {
		out = append(out, put(x))
	}
	for _, key := range append(badNumbers(), 0, 100, 101) {
		out = append(out, drop(key))
	}
	for _, at := range append(sampleVectors(), badVectors()...) {
		if len(at) > 0 {
			out = append(out, impl.Entry{Kind: impl.EntryDrop, Item: item(5, at, 0)})
		}
	}
	for _, tags := range append(badTags(), 1, 2, 4, 8, 15) {
		out = append(out, impl.Entry{Kind: impl.EntryDrop, Item: item(5, nil, tags)})
	}
	return append(out, impl.Entry{Kind: impl.EntryDrop, Item: item(5, flat(1), 15)})
}

// badLogs returns logs that are not valid: with a wrong entry alone, at the beginning, in the middle and at the end, and with too many entries.
func badLogs() [][]impl.Entry {
	var out [][]impl.Entry
	good := spreadLog(6, impl.MaxEntries, 20)
	for _, e := range badEntries() {
		out = append(out, []impl.Entry{e})
		for _, place := range vec(0, 1, 16, impl.MaxEntries-1) {
			log := slices.Clone(good)
			log[place] = e
			out = append(out, log)
		}
	}
	for _, size := range vec(impl.MaxEntries+1, impl.MaxEntries+2, 2*impl.MaxEntries, 500) {
		out = append(out, spreadLog(7, size, 20), slices.Repeat([]impl.Entry{putFlat(1, 1)}, size), slices.Repeat([]impl.Entry{drop(99)}, size))
	}
	return out
}

// inKeyOrder returns items by their keys as a store.
func inKeyOrder(items map[int]impl.Item) []impl.Item {
	var out []impl.Item
	for key := 1; key <= impl.MaxKey; key++ {
		if x, there := items[key]; there {
			out = append(out, x)
		}
	}
	return out
}

// wantReplay returns a store after the entries of a log up to the first one that cannot be done, and how many were done.
func wantReplay(list []impl.Item, log []impl.Entry) ([]impl.Item, int) {
	items := itemsOf(list)
	for done, e := range log {
		_, there := items[e.Item.Key]
		if !there && (e.Kind == impl.EntryDrop || len(items) == 16) {
			return inKeyOrder(items), done
		}
		if e.Kind == impl.EntryDrop {
			delete(items, e.Item.Key)
		} else {
			items[e.Item.Key] = e.Item
		}
	}
	return inKeyOrder(items), len(log)
}

// wantShort returns the last entry of each key, from the end of the log on.
func wantShort(log []impl.Entry) []impl.Entry {
	seen := map[int]bool{}
	var out []impl.Entry
	for _, e := range slices.Backward(log) {
		if !seen[e.Item.Key] {
			out = append(out, e)
		}
		seen[e.Item.Key] = true
	}
	slices.Reverse(out)
	return out
}

// wantBetween returns the log between two stores, key by key.
func wantBetween(a []impl.Item, b []impl.Item) []impl.Entry {
	first, second := itemsOf(a), itemsOf(b)
	var drops, puts []impl.Entry
	for key := 1; key <= impl.MaxKey; key++ {
		x, inFirst := first[key]
		y, inSecond := second[key]
		switch {
		case inFirst && !inSecond:
			drops = append(drops, drop(key))
		case inSecond && !(inFirst && sameItem(x, y)):
			puts = append(puts, put(y))
		}
	}
	return append(drops, puts...)
}

// sameEntry reports whether two entries are equal.
func sameEntry(a impl.Entry, b impl.Entry) bool {
	return a.Kind == b.Kind && sameItem(a.Item, b.Item)
}

// sameLog reports whether two logs are equal.
func sameLog(a []impl.Entry, b []impl.Entry) bool {
	return slices.EqualFunc(a, b, sameEntry)
}

// itemsIn returns the items of the entries of a log.
func itemsIn(log []impl.Entry) []impl.Item {
	var out []impl.Item
	for _, e := range log {
		out = append(out, e.Item)
	}
	return out
}

// roomyLog returns a copy of a log with entries in its spare capacity, and numbers in that of its vectors.
func roomyLog(log []impl.Entry) []impl.Entry {
	out := append(slices.Clone(log), putFlat(71, 7), drop(72))
	for i := range out {
		out[i].Item.At = roomy(out[i].Item.At)
	}
	return out[:len(log)]
}

// cloneLog returns a log with memory of its own, as many entries as fit into the capacity.
func cloneLog(log []impl.Entry) []impl.Entry {
	out := slices.Clone(log[:cap(log)])
	for i := range out {
		at := out[i].Item.At
		out[i].Item.At = slices.Clone(at[:cap(at)])[:len(at)]
	}
	return out[:len(log)]
}

// sameLogMemory reports whether two logs are equal as far as their capacities go.
func sameLogMemory(a []impl.Entry, b []impl.Entry) bool {
	return slices.EqualFunc(a[:cap(a)], b[:cap(b)], func(x impl.Entry, y impl.Entry) bool {
		one, other := x.Item.At, y.Item.At
		return sameEntry(x, y) && slices.Equal(one[:cap(one)], other[:cap(other)])
	})
}

// replayed returns ReplayLog of a valid store and log, which has to be a valid store, and to be done at most to the end.
func replayed(t *testing.T, list []impl.Item, log []impl.Entry) ([]impl.Item, int) {
	t.Helper()
	out, done := impl.ReplayLog(list, log)
	if done < 0 || done > len(log) || !impl.ValidStore(out) {
		t.Fatalf("ReplayLog(%v, %v) = %v, %d", list, log, out, done)
	}
	return out, done
}
