package tests

import (
	"slices"
	"testing"

	"loop.example/vectorstore/impl"
)

// comesBefore reports whether an item is nearer to a vector than another one, or as near with a smaller key.
func comesBefore(x impl.Item, y impl.Item, kind int, at []int) bool {
	near, far := impl.Distance(kind, x.At, at), impl.Distance(kind, y.At, at)
	return near < far || near == far && x.Key < y.Key
}

func TestP73NeighboursAreTheNearestOthers(t *testing.T) {
	eachGraph(func(list []impl.Item, kind int, many int) {
		links := linksOf(t, list, kind, many)
		for _, x := range list {
			others, ok := impl.DropItem(list, x.Key)
			if want := hitKeys(nearestOf(t, others, kind, x.At, many)); !ok || !slices.Equal(links[x.Key], want) {
				t.Errorf("LinksOf(%v, %d, %d) has %v for %d, not %v", list, kind, many, links[x.Key], x.Key, want)
			}
			all := hitKeys(nearestOf(t, list, kind, x.At, impl.MaxItems))
			all = slices.DeleteFunc(all, func(key int) bool { return key == x.Key })
			if !slices.Equal(links[x.Key], all[:min(many, len(all))]) {
				t.Errorf("LinksOf(%v, %d, %d) has %v for %d, not the first of %v", list, kind, many, links[x.Key], x.Key, all)
			}
		}
	})
}

func TestP74EverybodyHasAsManyNeighbours(t *testing.T) {
	eachGraph(func(list []impl.Item, kind int, many int) {
		has := itemsOf(list)
		for key, near := range linksOf(t, list, kind, many) {
			seen := map[int]bool{key: true}
			for _, other := range near {
				if _, there := has[other]; !there || seen[other] {
					t.Errorf("LinksOf(%v, %d, %d) has %v for %d", list, kind, many, near, key)
				}
				seen[other] = true
			}
			if len(near) != min(many, len(list)-1) {
				t.Errorf("LinksOf(%v, %d, %d) has %d neighbours for %d", list, kind, many, len(near), key)
			}
		}
	})
}

func TestP75WalksComeNearer(t *testing.T) {
	steps, asNear := 0, 0
	eachWalk(func(list []impl.Item, kind int, many int, key int, at []int) {
		has, links := itemsOf(list), linksOf(t, list, kind, many)
		walk := walked(t, list, kind, many, key, at)
		for i := 1; i < len(walk); i++ {
			last, next := has[walk[i-1]], has[walk[i]]
			if !slices.Contains(links[last.Key], next.Key) || !comesBefore(next, last, kind, at) {
				t.Errorf("WalkTo(%v, %d, %d, %d, %v) = %v goes wrong at %d", list, kind, many, key, at, walk, i)
			}
			for _, other := range links[last.Key] {
				if comesBefore(has[other], next, kind, at) {
					t.Errorf("WalkTo(%v, %d, %d, %d, %v) = %v does not go to %d", list, kind, many, key, at, walk, other)
				}
			}
			if impl.Distance(kind, last.At, at) == impl.Distance(kind, next.At, at) {
				asNear++
			}
			steps++
		}
	})
	if steps < 2000 || asNear < 200 {
		t.Errorf("only %d steps, of which %d go to items as near", steps, asNear)
	}
}

func TestP76WalksEndWhereNoneIsNearer(t *testing.T) {
	eachWalk(func(list []impl.Item, kind int, many int, key int, at []int) {
		walk := walked(t, list, kind, many, key, at)
		end := walk[len(walk)-1]
		if again := walked(t, list, kind, many, end, at); len(again) != 1 {
			t.Errorf("WalkTo(%v, %d, %d, %d, %v) = %v, and from its end %v", list, kind, many, key, at, walk, again)
		}
		has := itemsOf(list)
		for _, other := range linksOf(t, list, kind, many)[end] {
			if comesBefore(has[other], has[end], kind, at) {
				t.Errorf("WalkTo(%v, %d, %d, %d, %v) = %v ends before %d", list, kind, many, key, at, walk, other)
			}
		}
	})
}

func TestP77NearestItemsStay(t *testing.T) {
	for _, list := range graphStores() {
		for _, at := range searchVectors(list) {
			for _, kind := range allKinds() {
				for many := 1; many <= impl.MaxLinks && len(list) > 0; many++ {
					key := nearestOf(t, list, kind, at, 1)[0].Key
					if walk := walked(t, list, kind, many, key, at); !slices.Equal(walk, vec(key)) {
						t.Errorf("WalkTo(%v, %d, %d, %d, %v) = %v", list, kind, many, key, at, walk)
					}
				}
			}
		}
	}
}

func TestP78WalksStayInReach(t *testing.T) {
	eachWalk(func(list []impl.Item, kind int, many int, key int, at []int) {
		walk, keys := walked(t, list, kind, many, key, at), reached(t, list, kind, many, key)
		for _, there := range walk {
			if !slices.Contains(keys, there) {
				t.Errorf("WalkTo(%v, %d, %d, %d, %v) = %v leaves %v", list, kind, many, key, at, walk, keys)
			}
		}
	})
}

func TestP79ReachIsClosed(t *testing.T) {
	eachGraph(func(list []impl.Item, kind int, many int) {
		links, from := linksOf(t, list, kind, many), map[int][]int{}
		for _, x := range list {
			from[x.Key] = reached(t, list, kind, many, x.Key)
		}
		for key, keys := range from {
			for _, there := range keys {
				for _, next := range slices.Concat(links[there], from[there]) {
					if !slices.Contains(keys, next) {
						t.Errorf("ReachedFrom(%v, %d, %d, %d) = %v, but %d leads to %d", list, kind, many, key, keys, there, next)
					}
				}
				// Nothing else is in it: to each other item leads a neighbour from within.
				led := slices.ContainsFunc(keys, func(k int) bool { return slices.Contains(links[k], there) })
				if there != key && !led {
					t.Errorf("ReachedFrom(%v, %d, %d, %d) = %v, but none leads to %d", list, kind, many, key, keys, there)
				}
			}
		}
	})
}

func TestP80NeighboursOfEachOther(t *testing.T) {
	eachGraph(func(list []impl.Item, kind int, many int) {
		pairs, links := impl.MutualLinks(list, kind, many), linksOf(t, list, kind, many)
		both := 0
		for i, x := range list {
			for _, y := range list[i+1:] {
				mutual := slices.Contains(links[x.Key], y.Key) && slices.Contains(links[y.Key], x.Key)
				if mutual {
					both++
				}
				if hasPair(pairs, x.Key, y.Key) != mutual {
					t.Errorf("MutualLinks(%v, %d, %d) = %v, but LinksOf has %v and %v", list, kind, many, pairs, links[x.Key], links[y.Key])
				}
			}
		}
		if len(pairs) != both || !slices.IsSortedFunc(pairs, slices.Compare) {
			t.Errorf("MutualLinks(%v, %d, %d) = %v, not %d pairs in order", list, kind, many, pairs, both)
		}
	})
}

func TestP81TheClosestPairIsMutual(t *testing.T) {
	eachGraph(func(list []impl.Item, kind int, many int) {
		a, b, ok := impl.ClosestPair(list, kind)
		if ok != (len(list) > 1) {
			t.Fatalf("ClosestPair(%v, %d) = %d, %d, %v", list, kind, a, b, ok)
		}
		if pairs := impl.MutualLinks(list, kind, many); ok && !hasPair(pairs, a, b) {
			t.Errorf("MutualLinks(%v, %d, %d) = %v without %d, %d", list, kind, many, pairs, a, b)
		}
	})
}

func TestP157MoreNeighboursBeginWithFewer(t *testing.T) {
	more := 0
	eachGraph(func(list []impl.Item, kind int, many int) {
		if many == impl.MaxLinks {
			return
		}
		last, next := linksOf(t, list, kind, many), linksOf(t, list, kind, many+1)
		for key, near := range last {
			if len(next[key]) < len(near) || !slices.Equal(next[key][:len(near)], near) {
				t.Errorf("LinksOf(%v, %d, %d) has %v for %d, and with one more %v", list, kind, many, near, key, next[key])
			}
			if len(next[key]) > len(near) {
				more++
			}
		}
	})
	if more < 500 {
		t.Errorf("only %d items get one more neighbour", more)
	}
}

func TestP158WalksDoNotComeBack(t *testing.T) {
	eachWalk(func(list []impl.Item, kind int, many int, key int, at []int) {
		walk := walked(t, list, kind, many, key, at)
		if seen := slices.Compact(slices.Sorted(slices.Values(walk))); len(seen) != len(walk) {
			t.Errorf("WalkTo(%v, %d, %d, %d, %v) = %v", list, kind, many, key, at, walk)
		}
	})
}

func TestP159MoreNeighboursReachMore(t *testing.T) {
	more := 0
	for _, list := range graphStores() {
		for _, kind := range allKinds() {
			for _, x := range list {
				last := reached(t, list, kind, 1, x.Key)
				for many := 2; many <= impl.MaxLinks; many++ {
					next := reached(t, list, kind, many, x.Key)
					for _, key := range last {
						if !slices.Contains(next, key) {
							t.Errorf("ReachedFrom(%v, %d, %d, %d) = %v, but one less %v", list, kind, many, x.Key, next, last)
						}
					}
					if len(next) > len(last) {
						more++
					}
					last = next
				}
			}
		}
	}
	if more < 500 {
		t.Errorf("only %d items reach more with one neighbour more", more)
	}
}

func TestP160MoreNeighboursAreMoreMutual(t *testing.T) {
	more := 0
	for _, list := range graphStores() {
		for _, kind := range allKinds() {
			last := impl.MutualLinks(list, kind, 1)
			if (len(last) > 0) != (len(list) > 1) {
				t.Errorf("MutualLinks(%v, %d, 1) = %v", list, kind, last)
			}
			for many := 2; many <= impl.MaxLinks; many++ {
				next := impl.MutualLinks(list, kind, many)
				for _, p := range last {
					if !hasPair(next, p[0], p[1]) {
						t.Errorf("MutualLinks(%v, %d, %d) = %v, but one less %v", list, kind, many, next, last)
					}
				}
				if len(next) > len(last) {
					more++
				}
				last = next
			}
		}
	}
	if more < 200 {
		t.Errorf("only %d stores have more pairs with one neighbour more", more)
	}
}
