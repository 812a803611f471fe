package tests

import (
	"slices"
	"testing"

	"loop.example/vectorstore/impl"
)

// wantShard returns the shard of a key: that one of equal parts of a circle to which a walk of as many steps as the key leads.
func wantShard(key int, shards int) int {
	place := 0
	for range key {
		place += 389
		if place >= 1009 {
			place -= 1009
		}
	}
	shard := 0
	for (shard+1)*1009 <= place*shards {
		shard++
	}
	return shard
}

// keysIn returns all keys of a shard.
func keysIn(shards int, n int) []int {
	var out []int
	for key := 1; key <= impl.MaxKey; key++ {
		if wantShard(key, shards) == n {
			out = append(out, key)
		}
	}
	return out
}

// wantShardItems returns the items of a shard.
func wantShardItems(list []impl.Item, shards int, n int) []impl.Item {
	keys := keysIn(shards, n)
	return slices.DeleteFunc(slices.Clone(list), func(x impl.Item) bool {
		return !slices.Contains(keys, x.Key)
	})
}

// wantMovedKeys returns the keys of items whose shards differ.
func wantMovedKeys(list []impl.Item, from int, to int) []int {
	return slices.DeleteFunc(keysOf(list), func(key int) bool {
		return wantShard(key, from) == wantShard(key, to)
	})
}

// oneShardStore returns a store with items of one shard alone, as many as there can be.
func oneShardStore(shards int, n int) []impl.Item {
	keys := keysIn(shards, n)
	return spreadStore(uint64(10*shards+n), keys[:min(len(keys), impl.MaxItems)]...)
}

// shardStores returns valid stores of all sizes, with equal distances in different shards, and such whose items are all in one shard.
func shardStores() [][]impl.Item {
	out := searchStores()
	for _, shards := range vec(2, 4, 8) {
		for n := range shards {
			out = append(out, oneShardStore(shards, n))
		}
	}
	return out
}

// badShards returns numbers of shards that there cannot be.
func badShards() []int {
	return append(badNumbers(), 0, impl.MaxShards+1, impl.MaxShards+2, -impl.MaxShards)
}

// noShards returns numbers that are no shard of a number of shards.
func noShards(shards int) []int {
	return append(badNumbers(), shards, shards+1, -shards, impl.MaxShards, impl.MaxKey, impl.ShardCycle)
}

// eachSharded calls a function for all sample stores with all numbers of shards.
func eachSharded(f func(list []impl.Item, shards int)) {
	for _, list := range shardStores() {
		for shards := 1; shards <= impl.MaxShards; shards++ {
			f(list, shards)
		}
	}
}

// eachShardSearch calls a function for searches in all sample stores with some numbers of shards.
func eachShardSearch(f func(list []impl.Item, shards int, kind int, at []int)) {
	for i, list := range shardStores() {
		for j, at := range searchVectors(list) {
			for _, kind := range allKinds() {
				f(list, vec(1, 2, 4, 8)[(i+j)%4], kind, at)
				f(list, vec(3, 5, 6, 7)[(i+j+kind)%4], kind, at)
			}
		}
	}
}

// shardOf returns ShardOf a key, which has to be a shard.
func shardOf(t *testing.T, key int, shards int) int {
	t.Helper()
	n := impl.ShardOf(key, shards)
	if n < 0 || n >= shards {
		t.Fatalf("ShardOf(%d, %d) = %d", key, shards, n)
	}
	return n
}

// shardNearest returns ShardNearest, which has to have as many hits as wanted, or all.
func shardNearest(t *testing.T, list []impl.Item, shards int, kind int, at []int, k int) []impl.Hit {
	t.Helper()
	out := impl.ShardNearest(list, shards, kind, at, k)
	if len(out) != min(k, len(list)) {
		t.Fatalf("ShardNearest(%v, %d, %d, %v, %d) = %v", list, shards, kind, at, k, out)
	}
	return out
}
