package tests

import (
	"runtime"
	"slices"
	"sync"
	"testing"
	"time"

	"loop.example/vectorstore/impl"
)

func TestShardConstants(t *testing.T) {
	if impl.MaxShards != 8 || impl.ShardStep != 389 || impl.ShardCycle != 1009 {
		t.Errorf("the constants of shards are %d, %d and %d", impl.MaxShards, impl.ShardStep, impl.ShardCycle)
	}
}

func TestShardOfOrdinary(t *testing.T) {
	for _, c := range []struct {
		shards int
		want   []int
	}{
		{1, vec(0, 0, 0, 0, 0, 0, 0, 0, 0, 0)},
		{2, vec(0, 1, 0, 1, 1, 0, 1, 0, 0, 1)},
		{3, vec(1, 2, 0, 1, 2, 0, 2, 0, 1, 2)},
		{4, vec(1, 3, 0, 2, 3, 1, 2, 0, 1, 3)},
		{8, vec(3, 6, 1, 4, 7, 2, 5, 0, 3, 6)},
	} {
		for i, want := range c.want {
			if got := impl.ShardOf(i+1, c.shards); got != want {
				t.Errorf("ShardOf(%d, %d) = %d, not %d", i+1, c.shards, got, want)
			}
		}
	}
	for shards, want := range vec(0, 0, 0, 0, 0, 0, 1, 1, 1) {
		if got := impl.ShardOf(99, shards); shards > 0 && got != want {
			t.Errorf("ShardOf(99, %d) = %d, not %d", shards, got, want)
		}
	}
}

func TestShardOfAll(t *testing.T) {
	for key := 1; key <= impl.MaxKey; key++ {
		for shards := 1; shards <= impl.MaxShards; shards++ {
			if got, want := impl.ShardOf(key, shards), wantShard(key, shards); got != want {
				t.Errorf("ShardOf(%d, %d) = %d, not %d", key, shards, got, want)
			}
		}
	}
}

func TestShardOfInvalid(t *testing.T) {
	check := func(key int, shards int) {
		if got := impl.ShardOf(key, shards); got != -1 {
			t.Errorf("ShardOf(%d, %d) = %d", key, shards, got)
		}
	}
	badKeys := append(badNumbers(), 0, 100, 101, -99)
	for _, key := range badKeys {
		for shards := 1; shards <= impl.MaxShards; shards++ {
			check(key, shards)
		}
		for _, shards := range badShards() {
			check(key, shards)
		}
	}
	for _, shards := range badShards() {
		for key := 1; key <= impl.MaxKey; key++ {
			check(key, shards)
		}
	}
}

func TestShardItemsOrdinary(t *testing.T) {
	list := spreadStore(11, 1, 2, 3, 4, 5, 8, 98, 99)
	for _, c := range []struct {
		shards, n int
		want      []int
	}{
		{1, 0, vec(1, 2, 3, 4, 5, 8, 98, 99)},
		{2, 0, vec(1, 3, 8, 99)},
		{2, 1, vec(2, 4, 5, 98)},
		{4, 0, vec(3, 8, 99)},
		{4, 1, vec(1)},
		{4, 2, vec(4)},
		{4, 3, vec(2, 5, 98)},
		{8, 0, vec(8)},
		{8, 2, nil},
		{8, 6, vec(2, 98)},
		// Numbers that are no shard.
		{1, 1, nil},
		{2, 2, nil},
		{2, 3, nil},
		{2, -1, nil},
		{8, 8, nil},
	} {
		if got := impl.ShardItems(list, c.shards, c.n); !slices.Equal(keysOf(got), c.want) {
			t.Errorf("ShardItems(%v, %d, %d) = %v, not the keys %v", list, c.shards, c.n, got, c.want)
		}
	}
	for _, empty := range [][]impl.Item{nil, {}} {
		for n := range impl.MaxShards + 1 {
			if got := impl.ShardItems(empty, impl.MaxShards, n); len(got) != 0 {
				t.Errorf("ShardItems of no items, shard %d, = %v", n, got)
			}
		}
	}
}

func TestShardItemsAll(t *testing.T) {
	none, some, every := 0, 0, 0
	eachSharded(func(list []impl.Item, shards int) {
		for n := range shards {
			got, want := impl.ShardItems(list, shards, n), wantShardItems(list, shards, n)
			if !sameItems(got, want) {
				t.Errorf("ShardItems(%v, %d, %d) = %v, not %v", list, shards, n, got, want)
			}
			switch {
			case len(list) == 0 || shards == 1:
			case len(got) == 0:
				none++
			case len(got) == len(list):
				every++
			default:
				some++
			}
		}
	})
	if none < 100 || some < 100 || every < 20 {
		t.Errorf("%d shards have no items, %d some and %d all", none, some, every)
	}
}

func TestShardItemsInvalid(t *testing.T) {
	check := func(list []impl.Item, shards int, n int) {
		if got := impl.ShardItems(list, shards, n); len(got) != 0 {
			t.Errorf("ShardItems(%v, %d, %d) = %v", list, shards, n, got)
		}
	}
	for _, n := range append(noShards(1), 0, 1, 2, 7) {
		for _, list := range shardStores() {
			for _, shards := range badShards() {
				check(list, shards, n)
			}
		}
		for _, list := range badStores() {
			for shards := range impl.MaxShards + 2 {
				check(list, shards, n)
			}
		}
	}
}

func TestShardNearestOrdinary(t *testing.T) {
	// Of two shards 1, 3 and 99 have one, and the others the other one; of eight 3 and 99 have one, and each other key one of its own.
	list := []impl.Item{item(1, vec(5, 0, 0, 0), 0), item(2, vec(0, 5, 0, 0), 1), item(3, vec(0, 0, 1, 0), 2), item(4, vec(0, 0, 0, -5), 3), item(5, vec(2, 2, 0, 0), 4), item(99, vec(0, 0, 3, 4), 5)}
	for _, c := range []struct {
		kind int
		want []impl.Hit
	}{
		{impl.DistSum, []impl.Hit{hit(3, 1), hit(5, 4), hit(1, 5), hit(2, 5), hit(4, 5), hit(99, 7)}},
		{impl.DistMost, []impl.Hit{hit(3, 1), hit(5, 2), hit(99, 4), hit(1, 5), hit(2, 5), hit(4, 5)}},
		{impl.DistSquare, []impl.Hit{hit(3, 1), hit(5, 8), hit(1, 25), hit(2, 25), hit(4, 25), hit(99, 25)}},
		{impl.DistCount, []impl.Hit{hit(1, 1), hit(2, 1), hit(3, 1), hit(4, 1), hit(5, 2), hit(99, 2)}},
	} {
		for shards := 1; shards <= impl.MaxShards; shards++ {
			for k := 1; k <= impl.MaxItems; k++ {
				want := c.want[:min(k, len(c.want))]
				if got := impl.ShardNearest(list, shards, c.kind, flat(0), k); !slices.Equal(got, want) {
					t.Errorf("ShardNearest(%v, %d, %d, %d) = %v, not %v", list, shards, c.kind, k, got, want)
				}
				for _, empty := range [][]impl.Item{nil, {}} {
					if got := impl.ShardNearest(empty, shards, c.kind, flat(0), k); len(got) != 0 {
						t.Errorf("ShardNearest of no items in %d shards = %v", shards, got)
					}
				}
			}
		}
	}
}

func TestShardNearestFull(t *testing.T) {
	// All items are as far, in whichever shard, and so the keys alone count.
	list := corners(10)
	for shards := 1; shards <= impl.MaxShards; shards++ {
		for k := 1; k <= impl.MaxItems; k++ {
			got := impl.ShardNearest(list, shards, impl.DistSum, flat(0), k)
			if !slices.Equal(hitKeys(got), keysOf(list[:k])) {
				t.Errorf("ShardNearest of 16 items in %d shards, k %d, = %v", shards, k, got)
			}
		}
	}
}

func TestShardNearestAll(t *testing.T) {
	apart := 0
	eachShardSearch(func(list []impl.Item, shards int, kind int, at []int) {
		want := wantHits(list, kind, at)
		for _, k := range vec(1, 2, 5, impl.MaxItems) {
			if got := impl.ShardNearest(list, shards, kind, at, k); !slices.Equal(got, want[:min(k, len(want))]) {
				t.Errorf("ShardNearest(%v, %d, %d, %v, %d) = %v, not the first of %v", list, shards, kind, at, k, got, want)
			}
		}
		for i := 1; i < len(want); i++ {
			if want[i].Dist == want[i-1].Dist && wantShard(want[i].Key, shards) != wantShard(want[i-1].Key, shards) {
				apart++
			}
		}
	})
	if apart < 1000 {
		t.Errorf("only %d hits are as far as one of another shard", apart)
	}
}

func TestShardNearestInvalid(t *testing.T) {
	check := func(list []impl.Item, shards int, kind int, at []int, k int) {
		if got := impl.ShardNearest(list, shards, kind, at, k); len(got) != 0 {
			t.Errorf("ShardNearest(%v, %d, %d, %v, %d) = %v", list, shards, kind, at, k, got)
		}
	}
	badSearches(allKinds(), badKinds(), func(list []impl.Item, kind int, at []int, k int) {
		for _, shards := range vec(0, 1, 2, 8, 9) {
			check(list, shards, kind, at, k)
		}
	})
	for _, list := range shardStores() {
		for _, shards := range badShards() {
			for _, kind := range allKinds() {
				check(list, shards, kind, flat(1), 1)
				check(list, shards, kind, flat(1), impl.MaxItems)
			}
		}
	}
}

func TestMovedKeysOrdinary(t *testing.T) {
	list := spreadStore(12, 1, 2, 3, 4, 5, 8, 98, 99)
	for _, c := range []struct {
		from, to int
		want     []int
	}{
		{1, 1, nil},
		{8, 8, nil},
		{1, 2, vec(2, 4, 5, 98)},
		{2, 4, vec(1, 2, 4, 5, 98)},
		{1, 8, vec(1, 2, 3, 4, 5, 98, 99)},
		{4, 8, vec(1, 2, 3, 4, 5, 98, 99)},
		{2, 3, vec(1, 2, 5, 98)},
	} {
		for _, way := range [][2]int{{c.from, c.to}, {c.to, c.from}} {
			if got := impl.MovedKeys(list, way[0], way[1]); !slices.Equal(got, c.want) {
				t.Errorf("MovedKeys(%v, %d, %d) = %v, not %v", list, way[0], way[1], got, c.want)
			}
		}
	}
}

func TestMovedKeysAll(t *testing.T) {
	move, stay := 0, 0
	eachSharded(func(list []impl.Item, from int) {
		for to := 1; to <= impl.MaxShards; to++ {
			got, want := impl.MovedKeys(list, from, to), wantMovedKeys(list, from, to)
			if !slices.Equal(got, want) {
				t.Errorf("MovedKeys(%v, %d, %d) = %v, not %v", list, from, to, got, want)
			}
			if from != to {
				move, stay = move+len(got), stay+len(list)-len(got)
			}
		}
	})
	if move < 1000 || stay < 1000 {
		t.Errorf("%d keys move and %d stay", move, stay)
	}
}

func TestMovedKeysInvalid(t *testing.T) {
	check := func(list []impl.Item, from int, to int) {
		if got := impl.MovedKeys(list, from, to); len(got) != 0 {
			t.Errorf("MovedKeys(%v, %d, %d) = %v", list, from, to, got)
		}
	}
	eachSharded(func(list []impl.Item, shards int) {
		for _, bad := range badShards() {
			check(list, bad, shards)
			check(list, shards, bad)
			check(list, bad, bad)
		}
	})
	for _, bad := range badStores() {
		for from := range impl.MaxShards + 2 {
			for to := range impl.MaxShards + 2 {
				check(bad, from, to)
			}
		}
	}
}

func TestShardArgumentsAreNotChanged(t *testing.T) {
	check := func(list []impl.Item, shards int) {
		list, at := roomyItems(list), roomy(vec(2, -1, 0, 0))
		wantList, wantAt := cloneItems(list), slices.Clone(at[:cap(at)])
		for n := range shards {
			impl.ShardItems(list, shards, n)
		}
		for _, kind := range allKinds() {
			impl.ShardNearest(list, shards, kind, at, 3)
		}
		impl.MovedKeys(list, shards, 5)
		if !sameMemory(list, wantList) || !slices.Equal(at[:cap(at)], wantAt) {
			t.Errorf("arguments are changed: %v, %v", list[:cap(list)], at[:cap(at)])
		}
	}
	eachSharded(check)
	for _, list := range badStores() {
		check(list, 2)
	}
}

func TestShardResultsAreFresh(t *testing.T) {
	eachSharded(func(list []impl.Item, shards int) {
		list, at := roomyItems(list), roomy(vec(2, -1, 0, 0))
		for n := range shards {
			once, twice := impl.ShardItems(list, shards, n), impl.ShardItems(list, shards, n)
			checkFresh(t, "ShardItems", once, list, vectorsOf(twice)...)
			if overlap(once, twice) {
				t.Errorf("ShardItems(%v, %d, %d) twice shares its items", list, shards, n)
			}
		}
		hits := impl.ShardNearest(list, shards, impl.DistSum, at, 5)
		if overlap(hits, impl.ShardNearest(list, shards, impl.DistSum, at, 5)) {
			t.Errorf("ShardNearest(%v, %d) twice shares its hits", list, shards)
		}
		keys := impl.MovedKeys(list, shards, 4)
		if overlap(keys, impl.MovedKeys(list, shards, 4)) {
			t.Errorf("MovedKeys(%v, %d, 4) twice shares its keys", list, shards)
		}
	})
	// The items of a store may have one vector together, those of a result may not.
	at := flat(3)
	list := []impl.Item{item(1, at, 1), item(3, at, 2), item(8, at, 3)}
	for _, shards := range vec(1, 2) {
		out := impl.ShardItems(list, shards, 0)
		if len(out) != 3 {
			t.Fatalf("ShardItems = %v", out)
		}
		checkFresh(t, "ShardItems", out, list)
	}
}

func TestShardResultsKeepNothing(t *testing.T) {
	list := fullStore()
	for range 2 {
		out, hits, keys := impl.ShardItems(list, 2, 1), impl.ShardNearest(list, 3, impl.DistSum, list[15].At, 1), impl.MovedKeys(list, 2, 8)
		if !sameItems(out, wantShardItems(list, 2, 1)) || !slices.Equal(hits, []impl.Hit{hit(96, 0)}) || !slices.Equal(keys, wantMovedKeys(list, 2, 8)) {
			t.Fatalf("ShardItems(%v) = %v, ShardNearest = %v, MovedKeys = %v", list, out, hits, keys)
		}
		// What is done to a result does not come back in the next one.
		for _, x := range out {
			clear(x.At)
		}
		clear(out)
		clear(hits)
		clear(keys)
	}
}

func TestShardNearestDoesNotDependOnScheduling(t *testing.T) {
	defer runtime.GOMAXPROCS(runtime.GOMAXPROCS(0))
	list := corners(10)
	for _, processors := range vec(1, 2, 8) {
		runtime.GOMAXPROCS(processors)
		for range 200 {
			for _, k := range vec(1, 7, impl.MaxItems) {
				got := impl.ShardNearest(list, impl.MaxShards, impl.DistMost, flat(0), k)
				if !slices.Equal(hitKeys(got), keysOf(list[:k])) {
					t.Fatalf("ShardNearest with %d processors = %v", processors, got)
				}
			}
		}
	}
}

func TestShardNearestIsDoneWhenItReturns(t *testing.T) {
	for range 200 {
		list, at := cloneItems(fullStore()), flat(0)
		want := wantHits(list, impl.DistSum, at)
		hits := impl.ShardNearest(list, impl.MaxShards, impl.DistSum, at, impl.MaxItems)
		// A worker that still looked at the arguments would be found by the race detector, which does not see what clear does.
		for i := range at {
			at[i] = 7
		}
		for i, x := range list {
			x.At[0], x.At[3] = 7, 7
			list[i] = impl.Item{}
		}
		if !slices.Equal(hits, want) {
			t.Fatalf("ShardNearest = %v, not %v", hits, want)
		}
	}
}

func TestShardNearestLeavesNoWorkers(t *testing.T) {
	list, before := fullStore(), runtime.NumGoroutine()
	for range 500 {
		impl.ShardNearest(list, impl.MaxShards, impl.DistSum, flat(0), 3)
		impl.ShardNearest(list, impl.MaxShards+1, impl.DistSum, flat(0), 3)
		impl.ShardNearest(list, impl.MaxShards, impl.DistSum, flat(0), 0)
	}
	// A worker that is done may need a moment until it is no longer counted.
	for wait := 0; runtime.NumGoroutine() > before && wait < 5000; wait++ {
		time.Sleep(time.Millisecond)
	}
	if got := runtime.NumGoroutine(); got > before {
		t.Errorf("there are %d goroutines, and there were %d", got, before)
	}
}

func TestShardNearestAtTheSameTime(t *testing.T) {
	list, at := roomyItems(corners(10)), roomy(flat(0))
	want := wantHits(list, impl.DistSquare, at)
	var callers sync.WaitGroup
	for caller := range 8 {
		callers.Go(func() {
			for range 50 {
				if got := impl.ShardNearest(list, caller+1, impl.DistSquare, at, 9); !slices.Equal(got, want[:9]) {
					t.Errorf("ShardNearest in %d shards = %v, not %v", caller+1, got, want[:9])
				}
			}
		})
	}
	callers.Wait()
}
