package tests

import (
	"slices"
	"testing"

	"loop.example/vectorstore/impl"
)

func TestLogConstants(t *testing.T) {
	if impl.EntryPut != 1 || impl.EntryDrop != 2 || impl.MaxEntries != 32 {
		t.Errorf("the constants of logs are %d, %d and %d", impl.EntryPut, impl.EntryDrop, impl.MaxEntries)
	}
}

func TestValidLogOrdinary(t *testing.T) {
	for _, log := range sampleLogs() {
		if !impl.ValidLog(log) {
			t.Errorf("ValidLog(%v) = false", log)
		}
	}
	for key := 1; key <= impl.MaxKey; key++ {
		for _, e := range []impl.Entry{drop(key), put(item(key, flat(-100), 0)), put(item(key, flat(100), 15))} {
			if !impl.ValidLog([]impl.Entry{e}) || !impl.ValidLog(slices.Repeat([]impl.Entry{e}, impl.MaxEntries)) {
				t.Errorf("ValidLog of the entry %v = false", e)
			}
			if many := slices.Repeat([]impl.Entry{e}, impl.MaxEntries+1); impl.ValidLog(many) {
				t.Errorf("ValidLog of the entry %v, %d times, = true", e, len(many))
			}
		}
	}
}

func TestValidLogInvalid(t *testing.T) {
	for _, log := range badLogs() {
		if impl.ValidLog(log) {
			t.Errorf("ValidLog(%v) = true", log)
		}
	}
	// Each entry of a full log can be the wrong one.
	for i := range impl.MaxEntries {
		for _, e := range []impl.Entry{{}, {Kind: 3, Item: impl.Item{Key: 1}}, drop(0), drop(100), {Kind: impl.EntryDrop, Item: item(1, nil, 1)}, {Kind: impl.EntryDrop, Item: item(1, flat(0), 0)}, put(item(1, nil, 0))} {
			log := spreadLog(8, impl.MaxEntries, 9)
			log[i] = e
			if impl.ValidLog(log) {
				t.Errorf("ValidLog(%v) = true", log)
			}
		}
	}
}

func TestReplayLogOrdinary(t *testing.T) {
	one, two := item(1, flat(1), 1), item(99, vec(1, -2, 3, -4), 2)
	newOne := item(1, flat(7), 1)
	for _, c := range []struct {
		list []impl.Item
		log  []impl.Entry
		want []impl.Item
		done int
	}{
		{nil, nil, nil, 0},
		{[]impl.Item{one, two}, nil, []impl.Item{one, two}, 0},
		{nil, []impl.Entry{put(one)}, []impl.Item{one}, 1},
		{nil, []impl.Entry{put(two), put(one)}, []impl.Item{one, two}, 2},
		{[]impl.Item{two}, []impl.Entry{put(one)}, []impl.Item{one, two}, 1},
		{[]impl.Item{one, two}, []impl.Entry{put(newOne)}, []impl.Item{newOne, two}, 1},
		{[]impl.Item{one, two}, []impl.Entry{drop(1)}, []impl.Item{two}, 1},
		{[]impl.Item{one, two}, []impl.Entry{drop(99)}, []impl.Item{one}, 1},
		{[]impl.Item{one, two}, []impl.Entry{drop(99), drop(1)}, nil, 2},
		// Several entries of one key.
		{nil, []impl.Entry{put(one), drop(1), put(newOne)}, []impl.Item{newOne}, 3},
		{[]impl.Item{one}, []impl.Entry{drop(1), put(newOne), put(one), drop(1)}, nil, 4},
		{[]impl.Item{one}, []impl.Entry{put(newOne), put(one)}, []impl.Item{one}, 2},
		// A drop of what is not there, at the beginning, in the middle and at the end.
		{[]impl.Item{one}, []impl.Entry{drop(99), drop(1)}, []impl.Item{one}, 0},
		{nil, []impl.Entry{drop(1), put(one)}, nil, 0},
		{nil, []impl.Entry{put(one), drop(99), drop(1)}, []impl.Item{one}, 1},
		{nil, []impl.Entry{put(one), put(two), drop(50)}, []impl.Item{one, two}, 2},
		{[]impl.Item{one, two}, []impl.Entry{drop(1), drop(1), drop(99)}, []impl.Item{two}, 1},
	} {
		if got, done := impl.ReplayLog(c.list, c.log); !sameItems(got, c.want) || done != c.done {
			t.Errorf("ReplayLog(%v, %v) = %v, %d, not %v, %d", c.list, c.log, got, done, c.want, c.done)
		}
	}
}

func TestReplayLogIntoAFullStore(t *testing.T) {
	full := fullStore()
	for i, x := range full {
		other := item(x.Key, flat(3), 9)
		want := slices.Clone(full)
		want[i] = other
		if got, done := impl.ReplayLog(full, []impl.Entry{put(other)}); done != 1 || !sameItems(got, want) {
			t.Errorf("ReplayLog of a put of the key %d, which is there, = %v, %d", x.Key, got, done)
		}
		for _, key := range vec(1, x.Key+1, 99) {
			fresh := item(key, flat(3), 9)
			if got, done := impl.ReplayLog(full, []impl.Entry{put(fresh)}); done != 0 || !sameItems(got, full) {
				t.Errorf("ReplayLog of a put of the key %d, for which there is no room, = %v, %d", key, got, done)
			}
			if got, done := impl.ReplayLog(full, []impl.Entry{put(other), put(fresh), drop(x.Key)}); done != 1 || !sameItems(got, want) {
				t.Errorf("ReplayLog of puts of the keys %d and %d = %v, %d", x.Key, key, got, done)
			}
			room, ok := impl.PutItem(without(full, i), fresh)
			if got, done := impl.ReplayLog(full, []impl.Entry{drop(x.Key), put(fresh), put(other)}); !ok || done != 2 || !sameItems(got, room) {
				t.Errorf("ReplayLog of a drop of %d and a put of %d = %v, %d", x.Key, key, got, done)
			}
		}
	}
	var puts []impl.Entry
	for key := 1; key <= impl.MaxEntries; key++ {
		puts = append(puts, putFlat(key, key))
	}
	if got, done := impl.ReplayLog(nil, puts); done != impl.MaxItems || !sameItems(got, itemsIn(puts[:impl.MaxItems])) {
		t.Errorf("ReplayLog of %d puts = %v, %d", len(puts), got, done)
	}
}

func TestReplayLogAll(t *testing.T) {
	first, middle, all := 0, 0, 0
	eachReplay(func(list []impl.Item, log []impl.Entry) {
		want, wantDone := wantReplay(list, log)
		if got, done := impl.ReplayLog(list, log); !sameItems(got, want) || done != wantDone {
			t.Errorf("ReplayLog(%v, %v) = %v, %d, not %v, %d", list, log, got, done, want, wantDone)
		}
		switch wantDone {
		case len(log):
			all++
		case 0:
			first++
		default:
			middle++
		}
	})
	if first < 50 || middle < 50 || all < 50 {
		t.Errorf("%d logs stop at the first entry, %d later and %d not at all", first, middle, all)
	}
}

func TestReplayLogInvalid(t *testing.T) {
	check := func(list []impl.Item, log []impl.Entry) {
		if got, done := impl.ReplayLog(list, log); len(got) != 0 || done != -1 {
			t.Errorf("ReplayLog(%v, %v) = %v, %d", list, log, got, done)
		}
	}
	for _, bad := range badLogs() {
		for _, list := range sampleStores() {
			check(list, bad)
		}
		check(badStores()[0], bad)
	}
	for _, bad := range badStores() {
		for _, log := range sampleLogs() {
			check(bad, log)
		}
	}
	// A log that is not valid is not begun, even if it would stop before the wrong entry.
	check(nil, []impl.Entry{drop(1), {}})
	check(nil, []impl.Entry{putFlat(1, 1), drop(2), drop(100)})
}

func TestShortLogOrdinary(t *testing.T) {
	one, two, three := putFlat(1, 1), putFlat(1, 2), putFlat(99, 3)
	for _, c := range []struct{ log, want []impl.Entry }{
		{nil, nil},
		{[]impl.Entry{one}, []impl.Entry{one}},
		{[]impl.Entry{drop(99)}, []impl.Entry{drop(99)}},
		{[]impl.Entry{three, one}, []impl.Entry{three, one}},
		{[]impl.Entry{one, two}, []impl.Entry{two}},
		{[]impl.Entry{two, one}, []impl.Entry{one}},
		{[]impl.Entry{one, one, one}, []impl.Entry{one}},
		{[]impl.Entry{one, drop(1)}, []impl.Entry{drop(1)}},
		{[]impl.Entry{drop(1), one}, []impl.Entry{one}},
		{[]impl.Entry{drop(1), drop(1)}, []impl.Entry{drop(1)}},
		{[]impl.Entry{one, three, two}, []impl.Entry{three, two}},
		{[]impl.Entry{three, one, drop(99), two}, []impl.Entry{drop(99), two}},
		{[]impl.Entry{one, drop(99), drop(1), three}, []impl.Entry{drop(1), three}},
		{[]impl.Entry{drop(5), one, drop(5), two, drop(7), drop(6)}, []impl.Entry{drop(5), two, drop(7), drop(6)}},
	} {
		if got := impl.ShortLog(c.log); !sameLog(got, c.want) {
			t.Errorf("ShortLog(%v) = %v, not %v", c.log, got, c.want)
		}
	}
}

func TestShortLogAll(t *testing.T) {
	shorter := 0
	eachReplay(func(_ []impl.Item, log []impl.Entry) {
		got, want := impl.ShortLog(log), wantShort(log)
		if !sameLog(got, want) {
			t.Errorf("ShortLog(%v) = %v, not %v", log, got, want)
		}
		if len(got) < len(log) {
			shorter++
		}
	})
	if shorter < 100 {
		t.Errorf("only %d logs get shorter", shorter)
	}
}

func TestShortLogInvalid(t *testing.T) {
	for _, bad := range badLogs() {
		if got := impl.ShortLog(bad); len(got) != 0 {
			t.Errorf("ShortLog(%v) = %v", bad, got)
		}
	}
	// The wrong entry counts, even if a later one has its key.
	for _, log := range [][]impl.Entry{{put(item(5, nil, 0)), putFlat(5, 1)}, {{Kind: 3, Item: impl.Item{Key: 5}}, drop(5)}} {
		if got := impl.ShortLog(log); len(got) != 0 {
			t.Errorf("ShortLog(%v) = %v", log, got)
		}
	}
}

func TestLogBetweenOrdinary(t *testing.T) {
	one, two, three := item(1, flat(1), 1), item(50, flat(2), 2), item(99, flat(3), 3)
	moved, tagged := item(50, vec(2, 2, 2, 3), 2), item(50, flat(2), 3)
	full := fullStore()
	var puts, drops []impl.Entry
	for _, x := range full {
		puts, drops = append(puts, put(x)), append(drops, drop(x.Key))
	}
	for _, c := range []struct {
		a, b []impl.Item
		want []impl.Entry
	}{
		{nil, nil, nil},
		{[]impl.Item{one}, []impl.Item{one}, nil},
		{full, full, nil},
		{nil, full, puts},
		{full, nil, drops},
		{[]impl.Item{one}, []impl.Item{three}, []impl.Entry{drop(1), put(three)}},
		{[]impl.Item{three}, []impl.Item{one}, []impl.Entry{drop(99), put(one)}},
		{[]impl.Item{one, two, three}, []impl.Item{two}, []impl.Entry{drop(1), drop(99)}},
		{[]impl.Item{two}, []impl.Item{one, two, three}, []impl.Entry{put(one), put(three)}},
		// The same key with other coordinates, or with other tags alone.
		{[]impl.Item{two}, []impl.Item{moved}, []impl.Entry{put(moved)}},
		{[]impl.Item{two}, []impl.Item{tagged}, []impl.Entry{put(tagged)}},
		{[]impl.Item{one, tagged, three}, []impl.Item{one, two, three}, []impl.Entry{put(two)}},
		// The same coordinates and tags with another key.
		{[]impl.Item{item(4, flat(2), 2)}, []impl.Item{two}, []impl.Entry{drop(4), put(two)}},
		{[]impl.Item{one, two}, []impl.Item{moved, three}, []impl.Entry{drop(1), put(moved), put(three)}},
	} {
		if got := impl.LogBetween(c.a, c.b); !sameLog(got, c.want) {
			t.Errorf("LogBetween(%v, %v) = %v, not %v", c.a, c.b, got, c.want)
		}
	}
}

func TestLogBetweenFullStores(t *testing.T) {
	// As many entries as a log can have: no key is in both stores.
	a := fullStore()
	b := cloneItems(a)
	for i := range b {
		b[i].Key++
	}
	got := impl.LogBetween(a, b)
	if len(got) != impl.MaxEntries || !impl.ValidLog(got) || !sameLog(got, wantBetween(a, b)) {
		t.Errorf("LogBetween(%v, %v) = %v", a, b, got)
	}
	if out, done := impl.ReplayLog(a, got); done != impl.MaxEntries || !sameItems(out, b) {
		t.Errorf("ReplayLog of LogBetween = %v, %d", out, done)
	}
}

func TestLogBetweenAll(t *testing.T) {
	eachTwoStores(func(a []impl.Item, b []impl.Item) {
		if got, want := impl.LogBetween(a, b), wantBetween(a, b); !sameLog(got, want) {
			t.Errorf("LogBetween(%v, %v) = %v, not %v", a, b, got, want)
		}
	})
	for _, a := range sampleStores() {
		for i, b := range changedStores(a) {
			if got := impl.LogBetween(a, b); len(got) != 1 {
				t.Errorf("LogBetween(%v, %v), change %d, = %v", a, b, i, got)
			}
		}
	}
}

func TestLogBetweenInvalid(t *testing.T) {
	for _, bad := range badStores() {
		for _, list := range append(sampleStores(), bad) {
			if got := impl.LogBetween(bad, list); len(got) != 0 {
				t.Errorf("LogBetween(%v, %v) = %v", bad, list, got)
			}
			if got := impl.LogBetween(list, bad); len(got) != 0 {
				t.Errorf("LogBetween(%v, %v) = %v", list, bad, got)
			}
		}
	}
}

func TestLogArgumentsAreNotChanged(t *testing.T) {
	check := func(list []impl.Item, other []impl.Item, log []impl.Entry) {
		list, other, log = roomyItems(list), roomyItems(other), roomyLog(log)
		wantList, wantOther, wantLog := cloneItems(list), cloneItems(other), cloneLog(log)
		impl.ValidLog(log)
		impl.ReplayLog(list, log)
		impl.ShortLog(log)
		impl.LogBetween(list, other)
		impl.LogBetween(other, list)
		if !sameMemory(list, wantList) || !sameMemory(other, wantOther) || !sameLogMemory(log, wantLog) {
			t.Errorf("arguments are changed: %v, %v, %v", list[:cap(list)], other[:cap(other)], log[:cap(log)])
		}
	}
	eachReplay(func(list []impl.Item, log []impl.Entry) {
		check(list, fullStore(), log)
	})
	for i, log := range badLogs() {
		check(sampleStores()[i%11], fullStore(), log)
	}
	eachTwoStores(func(a []impl.Item, b []impl.Item) {
		check(a, b, nil)
	})
}

// checkFreshLog tells if a log shares memory with another one or with some vectors, or if its own vectors share memory.
func checkFreshLog(t *testing.T, name string, out []impl.Entry, other []impl.Entry, more ...[]int) {
	t.Helper()
	if overlap(out, other) {
		t.Errorf("%s shares its entries", name)
	}
	checkFresh(t, name, itemsIn(out[:cap(out)]), itemsIn(other[:cap(other)]), more...)
}

func TestLogResultsAreFresh(t *testing.T) {
	eachReplay(func(list []impl.Item, log []impl.Entry) {
		list, log = roomyItems(list), roomyLog(log)
		given := vectorsOf(itemsIn(log[:cap(log)]))
		once, _ := impl.ReplayLog(list, log)
		twice, _ := impl.ReplayLog(list, log)
		checkFresh(t, "ReplayLog", once, list, slices.Concat(given, vectorsOf(twice))...)
		if overlap(once, twice) {
			t.Errorf("ReplayLog(%v, %v) twice shares its items", list, log)
		}
		short := impl.ShortLog(log)
		checkFreshLog(t, "ShortLog", short, log)
		checkFreshLog(t, "ShortLog twice", short, impl.ShortLog(log))
	})
	eachTwoStores(func(a []impl.Item, b []impl.Item) {
		a, b = roomyItems(a), roomyItems(b)
		between := impl.LogBetween(a, b)
		checkFreshLog(t, "LogBetween", between, impl.LogBetween(a, b), vectorsOf(slices.Concat(a[:cap(a)], b[:cap(b)]))...)
	})
}

func TestLogResultsHaveVectorsOfTheirOwn(t *testing.T) {
	// The items of a store and the entries of a log may have one vector together, those of a result may not.
	at := roomy(flat(3))
	list := []impl.Item{item(1, at, 1), item(2, at, 2)}
	log := []impl.Entry{put(item(3, at, 3)), put(item(4, at, 4)), put(item(1, at, 5)), put(item(3, at, 6))}
	out, done := impl.ReplayLog(list, log)
	if done != 4 || len(out) != 4 {
		t.Fatalf("ReplayLog = %v, %d", out, done)
	}
	checkFresh(t, "ReplayLog", out, list, at)
	short := impl.ShortLog(log)
	if len(short) != 3 {
		t.Fatalf("ShortLog = %v", short)
	}
	checkFreshLog(t, "ShortLog", short, log)
	between := impl.LogBetween(nil, list)
	if len(between) != 2 {
		t.Fatalf("LogBetween = %v", between)
	}
	checkFreshLog(t, "LogBetween", between, log, at)
}

func TestLogResultsKeepNothing(t *testing.T) {
	list, log := fullStore(), doableLog(9, fullStore(), impl.MaxEntries)
	for range 2 {
		out, done := impl.ReplayLog(list, log)
		short, between := impl.ShortLog(log), impl.LogBetween(nil, list)
		want, _ := wantReplay(list, log)
		if done != impl.MaxEntries || !sameItems(out, want) || !sameLog(short, wantShort(log)) || !sameLog(between, wantBetween(nil, list)) {
			t.Fatalf("ReplayLog(%v, %v) = %v, %d, ShortLog = %v, LogBetween = %v", list, log, out, done, short, between)
		}
		// What is done to a result does not come back in the next one.
		for _, x := range slices.Concat(out, itemsIn(short), itemsIn(between)) {
			clear(x.At)
		}
		clear(out)
		clear(short)
		clear(between)
	}
}
