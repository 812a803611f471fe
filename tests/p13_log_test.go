package tests

import (
	"slices"
	"testing"

	"loop.example/vectorstore/impl"
)

func TestP105LogsHaveBeginnings(t *testing.T) {
	eachReplay(func(_ []impl.Item, log []impl.Entry) {
		for size := range len(log) + 1 {
			if !impl.ValidLog(log[:size]) {
				t.Errorf("ValidLog(%v) = false", log[:size])
			}
		}
	})
}

func TestP106LogsGoEntryByEntry(t *testing.T) {
	behind := 0
	eachReplay(func(list []impl.Item, log []impl.Entry) {
		want, wantDone := replayed(t, list, log)
		for cut := range len(log) + 1 {
			out, done := replayed(t, list, log[:cut])
			// If not all of the first entries can be done, the log ends there, and the others are left.
			if done == cut {
				more := 0
				out, more = replayed(t, out, log[cut:])
				done += more
				behind += more
			}
			if !sameItems(out, want) || done != wantDone {
				t.Errorf("ReplayLog(%v, %v), cut at %d, = %v, %d, not %v, %d", list, log, cut, out, done, want, wantDone)
			}
		}
	})
	if behind < 1000 {
		t.Errorf("only %d entries are done behind the cuts", behind)
	}
}

func TestP107LogsStopAtWhatCannotBeDone(t *testing.T) {
	stopped := 0
	eachReplay(func(list []impl.Item, log []impl.Entry) {
		want, done := replayed(t, list, log)
		if got, n := replayed(t, list, log[:done]); n != done || !sameItems(got, want) {
			t.Errorf("ReplayLog(%v, %v) = %v, %d, not %v, %d", list, log[:done], got, n, want, done)
		}
		if done == len(log) {
			return
		}
		stopped++
		if got, n := replayed(t, want, log[done:]); n != 0 || !sameItems(got, want) {
			t.Errorf("ReplayLog(%v, %v) = %v, %d behind the entries that were done", want, log[done:], got, n)
		}
		e, fits := log[done], true
		if e.Kind == impl.EntryDrop {
			_, fits = impl.DropItem(want, e.Item.Key)
		} else {
			_, fits = impl.PutItem(want, e.Item)
		}
		if fits {
			t.Errorf("ReplayLog(%v, %v) stops at %d, but %v can be done for %v", list, log, done, e, want)
		}
	})
	if stopped < 100 {
		t.Errorf("only %d logs stop", stopped)
	}
}

func TestP108TheLastEntryOfAKeyCounts(t *testing.T) {
	puts, drops := 0, 0
	eachReplay(func(list []impl.Item, log []impl.Entry) {
		out, done := replayed(t, list, log)
		if done < len(log) {
			return
		}
		last := map[int]impl.Entry{}
		for _, e := range log {
			last[e.Item.Key] = e
		}
		for key, e := range last {
			got, there := impl.GetItem(out, key)
			if e.Kind == impl.EntryPut && (!there || !sameItem(got, e.Item)) || e.Kind == impl.EntryDrop && there {
				t.Errorf("behind ReplayLog(%v, %v) there is %v, %v, but the last entry is %v", list, log, got, there, e)
			}
			if e.Kind == impl.EntryPut {
				puts++
			} else {
				drops++
			}
		}
	})
	if puts < 100 || drops < 100 {
		t.Errorf("only %d last entries put and %d drop", puts, drops)
	}
}

func TestP109ShortLogsHaveEachKeyOnce(t *testing.T) {
	eachReplay(func(_ []impl.Item, log []impl.Entry) {
		short := impl.ShortLog(log)
		if !impl.ValidLog(short) {
			t.Errorf("ShortLog(%v) = %v is not valid", log, short)
		}
		next := 0
		for i, e := range log {
			if slices.Contains(keysOf(itemsIn(log[i+1:])), e.Item.Key) {
				continue
			}
			if next >= len(short) || !sameEntry(short[next], e) {
				t.Errorf("ShortLog(%v) = %v, without %v at %d", log, short, e, next)
			}
			next++
		}
		if len(short) != next {
			t.Errorf("ShortLog(%v) = %v, but there are %d keys", log, short, next)
		}
	})
}

func TestP110ShortLogsDoTheSame(t *testing.T) {
	same := 0
	eachReplay(func(list []impl.Item, log []impl.Entry) {
		short := impl.ShortLog(log)
		want, done := replayed(t, list, log)
		got, n := replayed(t, list, short)
		if done < len(log) || n < len(short) {
			return
		}
		if !sameItems(got, want) {
			t.Errorf("ReplayLog(%v, %v) = %v, but of the short log %v it is %v", list, log, want, short, got)
		}
		if len(short) < len(log) {
			same++
		}
	})
	if same < 20 {
		t.Errorf("only %d logs can be done both short and long", same)
	}
}

func TestP111LogsLeadFromStoreToStore(t *testing.T) {
	eachTwoStores(func(a []impl.Item, b []impl.Item) {
		log := impl.LogBetween(a, b)
		if got, done := replayed(t, a, log); done != len(log) || !sameItems(got, b) {
			t.Errorf("ReplayLog(%v, %v) = %v, %d, not %v", a, log, got, done, b)
		}
	})
	eachReplay(func(list []impl.Item, log []impl.Entry) {
		out, _ := replayed(t, list, log)
		log = impl.LogBetween(out, list)
		if back, done := replayed(t, out, log); done != len(log) || !sameItems(back, list) {
			t.Errorf("ReplayLog(%v, %v) = %v, %d, not %v", out, log, back, done, list)
		}
	})
}

func TestP112LogsAreNoLongerThanNeeded(t *testing.T) {
	eachTwoStores(func(a []impl.Item, b []impl.Item) {
		for _, list := range [][]impl.Item{a, b} {
			if got := impl.LogBetween(list, cloneItems(list)); len(got) != 0 {
				t.Errorf("LogBetween(%v) and itself = %v", list, got)
			}
		}
		log := impl.LogBetween(a, b)
		if !impl.ValidLog(log) || !sameLog(impl.ShortLog(log), log) {
			t.Errorf("LogBetween(%v, %v) = %v has a key twice", a, b, log)
		}
		for i := range log {
			some := slices.Concat(log[:i], log[i+1:])
			if got, done := replayed(t, a, some); done == len(some) && sameItems(got, b) {
				t.Errorf("LogBetween(%v, %v) = %v does not need its entry %d", a, b, log, i)
			}
		}
	})
}

func TestP168LogsChangeWhatTheyName(t *testing.T) {
	kept := 0
	eachReplay(func(list []impl.Item, log []impl.Entry) {
		out, _ := replayed(t, list, log)
		named := keysOf(itemsIn(log))
		for key := 1; key <= impl.MaxKey; key++ {
			if slices.Contains(named, key) {
				continue
			}
			old, was := impl.GetItem(list, key)
			got, there := impl.GetItem(out, key)
			if was != there || !sameItem(got, old) {
				t.Errorf("ReplayLog(%v, %v) changes the key %d to %v, %v", list, log, key, got, there)
			}
			if was {
				kept++
			}
		}
	})
	if kept < 1000 {
		t.Errorf("only %d items are named by no entry", kept)
	}
}

func TestP169EmptyStoresAreFilled(t *testing.T) {
	for _, list := range searchStores() {
		for _, empty := range [][]impl.Item{nil, {}} {
			there, back := impl.LogBetween(empty, list), impl.LogBetween(list, empty)
			if len(there) != len(list) || len(back) != len(list) {
				t.Fatalf("LogBetween the empty store and %v = %v, and back %v", list, there, back)
			}
			for i, x := range list {
				if !sameEntry(there[i], put(x)) || !sameEntry(back[i], drop(x.Key)) {
					t.Errorf("LogBetween the empty store and %v has %v, and back %v", list, there[i], back[i])
				}
			}
		}
	}
}
