package tests

import (
	"slices"
	"testing"

	"loop.example/vectorstore/impl"
)

func TestP113KeysHaveShards(t *testing.T) {
	for key := 1; key <= impl.MaxKey; key++ {
		for shards := 1; shards <= impl.MaxShards; shards++ {
			if n := impl.ShardOf(key, shards); n < 0 || n >= shards {
				t.Errorf("ShardOf(%d, %d) = %d", key, shards, n)
			}
		}
		if n := impl.ShardOf(key, 1); n != 0 {
			t.Errorf("ShardOf(%d, 1) = %d", key, n)
		}
	}
}

func TestP114ShardsAreSplitInTwo(t *testing.T) {
	same, more := 0, 0
	for key := 1; key <= impl.MaxKey; key++ {
		for shards := 1; 2*shards <= impl.MaxShards; shards++ {
			switch half, whole := shardOf(t, key, 2*shards), shardOf(t, key, shards); half {
			case 2 * whole:
				same++
			case 2*whole + 1:
				more++
			default:
				t.Errorf("ShardOf(%d, %d) = %d, but ShardOf(%d, %d) = %d", key, 2*shards, half, key, shards, whole)
			}
		}
	}
	if same < 100 || more < 100 {
		t.Errorf("%d keys are in the first part of a shard and %d in the second one", same, more)
	}
}

func TestP115AllItemsAreInShards(t *testing.T) {
	eachSharded(func(list []impl.Item, shards int) {
		for _, x := range list {
			for n := range shards {
				got, found := impl.GetItem(impl.ShardItems(list, shards, n), x.Key)
				if found != (n == shardOf(t, x.Key, shards)) || found && !sameItem(got, x) {
					t.Errorf("ShardItems(%v, %d, %d) has %v, %v", list, shards, n, got, found)
				}
			}
		}
		many := 0
		for n := range shards {
			some := impl.ShardItems(list, shards, n)
			if !impl.ValidStore(some) {
				t.Errorf("ShardItems(%v, %d, %d) = %v", list, shards, n, some)
			}
			many += len(some)
		}
		if many != len(list) {
			t.Errorf("%d items of %v are in %d shards", many, list, shards)
		}
	})
}

func TestP116OtherShardsAreEmpty(t *testing.T) {
	eachSharded(func(list []impl.Item, shards int) {
		for _, n := range noShards(shards) {
			if got := impl.ShardItems(list, shards, n); len(got) != 0 {
				t.Errorf("ShardItems(%v, %d, %d) = %v", list, shards, n, got)
			}
		}
		if got := impl.ShardItems(list, 1, 0); !sameItems(got, list) {
			t.Errorf("ShardItems(%v, 1, 0) = %v", list, got)
		}
	})
}

func TestP117ShardsFindTheNearestTogether(t *testing.T) {
	eachShardSearch(func(list []impl.Item, shards int, kind int, at []int) {
		for _, k := range vec(1, 3, 8, impl.MaxItems) {
			got := shardNearest(t, list, shards, kind, at, k)
			if want := nearestOf(t, list, kind, at, k); !slices.Equal(got, want) {
				t.Errorf("ShardNearest(%v, %d, %d, %v, %d) = %v, not %v", list, shards, kind, at, k, got, want)
			}
		}
	})
	// The same, as it is told: merged one after the other.
	for _, list := range shardStores() {
		for shards := 1; shards <= impl.MaxShards; shards++ {
			for _, k := range vec(1, 3, impl.MaxItems) {
				var merged []impl.Hit
				for n := range shards {
					merged = impl.MergeHits(merged, impl.Nearest(impl.ShardItems(list, shards, n), impl.DistSum, flat(5), k), k)
				}
				if got := shardNearest(t, list, shards, impl.DistSum, flat(5), k); !slices.Equal(got, merged) {
					t.Errorf("ShardNearest(%v, %d, %d) = %v, but merged it is %v", list, shards, k, got, merged)
				}
			}
		}
	}
}

func TestP118MovedKeysAreThoseWhoseShardsChange(t *testing.T) {
	eachSharded(func(list []impl.Item, from int) {
		for to := 1; to <= impl.MaxShards; to++ {
			moved := impl.MovedKeys(list, from, to)
			if back := impl.MovedKeys(list, to, from); !slices.Equal(moved, back) {
				t.Errorf("MovedKeys(%v, %d, %d) = %v, and back %v", list, from, to, moved, back)
			}
			var want []int
			for _, x := range list {
				if shardOf(t, x.Key, from) != shardOf(t, x.Key, to) {
					want = append(want, x.Key)
				}
			}
			if !slices.Equal(moved, want) || from == to && len(moved) != 0 {
				t.Errorf("MovedKeys(%v, %d, %d) = %v, not %v", list, from, to, moved, want)
			}
		}
	})
}

func TestP170ShardsShareKeys(t *testing.T) {
	for shards := 2; shards <= impl.MaxShards; shards++ {
		many := make([]int, shards)
		for key := 1; key <= impl.MaxKey; key++ {
			many[shardOf(t, key, shards)]++
		}
		if slices.Max(many) == impl.MaxKey {
			t.Errorf("of %d shards one has all keys: %v", shards, many)
		}
	}
}

func TestP171ShardsAndDropsDoNotDependOnEachOther(t *testing.T) {
	eachShardSearch(func(list []impl.Item, shards int, kind int, at []int) {
		if len(list) == 0 {
			return
		}
		nearest := shardNearest(t, list, shards, kind, at, 1)[0].Key
		rest, ok := impl.DropItem(list, nearest)
		if !ok {
			t.Fatalf("ShardNearest(%v, %d, %d, %v, 1) has the key %d", list, shards, kind, at, nearest)
		}
		all := shardNearest(t, list, shards, kind, at, impl.MaxItems)
		got := shardNearest(t, rest, shards, kind, at, impl.MaxItems)
		if slices.Contains(hitKeys(got), nearest) || !slices.Equal(got, all[1:]) {
			t.Errorf("ShardNearest(%v, %d, %d, %v) without the key %d = %v, not %v", rest, shards, kind, at, nearest, got, all[1:])
		}
	})
}

func TestP172FewKeysMove(t *testing.T) {
	eachSharded(func(list []impl.Item, many int) {
		if got := impl.MovedKeys(list, many, many); len(got) != 0 {
			t.Errorf("MovedKeys(%v, %d, %d) = %v", list, many, many, got)
		}
		for fewer := 1; fewer <= many; fewer++ {
			moved := impl.MovedKeys(list, many, fewer)
			for _, x := range impl.ShardItems(list, many, 0) {
				if slices.Contains(moved, x.Key) {
					t.Errorf("MovedKeys(%v, %d, %d) = %v has %d of shard 0", list, many, fewer, moved, x.Key)
				}
			}
		}
	})
	for key := 1; key <= impl.MaxKey; key++ {
		for many := 1; many <= impl.MaxShards; many++ {
			for fewer := 1; fewer <= many; fewer++ {
				if shardOf(t, key, many) == 0 && shardOf(t, key, fewer) != 0 {
					t.Errorf("the key %d is in shard 0 of %d, but not of %d", key, many, fewer)
				}
			}
		}
	}
}
