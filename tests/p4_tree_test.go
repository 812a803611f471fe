package tests

import (
	"slices"
	"testing"

	"loop.example/vectorstore/impl"
)

// eachTree calls a function for the trees of all sample stores and kinds of distances.
func eachTree(t *testing.T, f func(list []impl.Item, kind int, nodes []impl.Node)) {
	t.Helper()
	for _, list := range searchStores() {
		for _, kind := range treeKinds() {
			f(list, kind, treeOf(t, list, kind))
		}
	}
}

// keysBelow returns the keys of the nodes of a tree by following its numbers.
func keysBelow(nodes []impl.Node, top int) []int {
	if top == -1 {
		return nil
	}
	n := nodes[top]
	return slices.Concat([]int{n.Key}, keysBelow(nodes, n.Near), keysBelow(nodes, n.Far))
}

func TestP29TreesHaveAllItems(t *testing.T) {
	eachTree(t, func(list []impl.Item, kind int, nodes []impl.Node) {
		if len(list) == 0 {
			return
		}
		if nodes[0].Key != list[0].Key {
			t.Errorf("BuildTree(%v, %d) begins with %v", list, kind, nodes[0])
		}
		var all []int
		for _, n := range nodes {
			all = append(all, n.Key)
		}
		below := keysBelow(nodes, 0)
		slices.Sort(all)
		slices.Sort(below)
		if !slices.Equal(all, keysOf(list)) || !slices.Equal(below, keysOf(list)) {
			t.Errorf("BuildTree(%v, %d) = %v", list, kind, nodes)
		}
	})
}

func TestP30NearItemsAreNear(t *testing.T) {
	eachTree(t, func(list []impl.Item, kind int, nodes []impl.Node) {
		has := itemsOf(list)
		away := func(i int, j int) int {
			return impl.Distance(kind, has[nodes[i].Key].At, has[nodes[j].Key].At)
		}
		for i, n := range nodes {
			if n.Near != -1 && (n.Near <= i || away(i, n.Near) > n.Radius) {
				t.Errorf("BuildTree(%v, %d) = %v has a wrong Near at %d", list, kind, nodes, i)
			}
			if n.Far != -1 && (n.Far <= i || away(i, n.Far) < n.Radius) {
				t.Errorf("BuildTree(%v, %d) = %v has a wrong Far at %d", list, kind, nodes, i)
			}
		}
	})
}

// otherNodes returns lists of nodes that differ from some, each in one place.
func otherNodes(nodes []impl.Node) [][]impl.Node {
	out := [][]impl.Node{append(slices.Clone(nodes), node(1, 0, -1, -1)), append(slices.Clone(nodes), impl.Node{})}
	for i := range nodes {
		for _, by := range vec(-1, 1, 1000) {
			for field := range 4 {
				list := slices.Clone(nodes)
				place := []*int{&list[i].Key, &list[i].Radius, &list[i].Near, &list[i].Far}[field]
				*place += by
				out = append(out, list)
			}
		}
		out = append(out, nodes[:i], slices.Concat(nodes[:i], nodes[i+1:]))
		if i > 0 {
			list := slices.Clone(nodes)
			list[i-1], list[i] = list[i], list[i-1]
			out = append(out, list)
		}
	}
	return out
}

func TestP31TreesBelongToStores(t *testing.T) {
	eachTree(t, func(list []impl.Item, kind int, nodes []impl.Node) {
		if !impl.IsTreeOf(nodes, list, kind) {
			t.Errorf("BuildTree(%v, %d) is not IsTreeOf", list, kind)
		}
		for _, other := range otherNodes(nodes) {
			if impl.IsTreeOf(other, list, kind) {
				t.Errorf("IsTreeOf(%v, %v, %d), but the tree is %v", other, list, kind, nodes)
			}
		}
		for _, second := range treeKinds() {
			other := treeOf(t, list, second)
			if impl.IsTreeOf(other, list, kind) != slices.Equal(other, nodes) {
				t.Errorf("IsTreeOf(%v, %v, %d), but the tree is %v", other, list, kind, nodes)
			}
		}
	})
	first := treeOf(t, fullStore(), impl.DistSum)
	for _, list := range searchStores() {
		if got := impl.IsTreeOf(first, list, impl.DistSum); got != slices.Equal(treeOf(t, list, impl.DistSum), first) {
			t.Errorf("IsTreeOf of the tree of a full store is %v for %v", got, list)
		}
	}
}

func TestP32TreesFindTheNearest(t *testing.T) {
	eachSearch(treeKinds(), func(list []impl.Item, kind int, at []int) {
		for k := 1; k <= impl.MaxItems; k++ {
			want := nearestOf(t, list, kind, at, k)
			if got := impl.TreeNearest(list, kind, at, k); !slices.Equal(got, want) {
				t.Errorf("TreeNearest(%v, %d, %v, %d) = %v, not %v", list, kind, at, k, got, want)
			}
		}
	})
}

func TestP33TreesLookAtFewItems(t *testing.T) {
	eachSearch(treeKinds(), func(list []impl.Item, kind int, at []int) {
		for k := 1; k <= impl.MaxItems; k++ {
			found, visits := len(impl.TreeNearest(list, kind, at, k)), impl.TreeVisits(list, kind, at, k)
			if found != min(k, len(list)) || visits < found || visits > len(list) {
				t.Errorf("TreeVisits(%v, %d, %v, %d) = %d, with %d found", list, kind, at, k, visits, found)
			}
		}
	})
}

func TestP34WhoWantsAllLooksAtAll(t *testing.T) {
	eachSearch(treeKinds(), func(list []impl.Item, kind int, at []int) {
		for k := max(1, len(list)); k <= impl.MaxItems; k++ {
			if got := impl.TreeVisits(list, kind, at, k); got != len(list) {
				t.Errorf("TreeVisits(%v, %d, %v, %d) = %d", list, kind, at, k, got)
			}
		}
	})
}

func TestP144SmallTreesAreSimple(t *testing.T) {
	for _, x := range fullStore() {
		for _, kind := range treeKinds() {
			one := []impl.Item{x}
			if got := impl.BuildTree(one, kind); !slices.Equal(got, []impl.Node{node(x.Key, 0, -1, -1)}) {
				t.Errorf("BuildTree(%v, %d) = %v", one, kind, got)
			}
			for _, y := range fullStore() {
				if y.Key <= x.Key {
					continue
				}
				two := []impl.Item{x, y}
				dist := impl.Distance(kind, x.At, y.At)
				if got := impl.BuildTree(two, kind); !slices.Equal(got, []impl.Node{node(x.Key, dist, 1, -1), node(y.Key, 0, -1, -1)}) {
					t.Errorf("BuildTree(%v, %d) = %v", two, kind, got)
				}
			}
		}
	}
}

func TestP145TreesAreEven(t *testing.T) {
	eachTree(t, func(list []impl.Item, kind int, nodes []impl.Node) {
		for i, n := range nodes {
			near, far := len(keysBelow(nodes, n.Near)), len(keysBelow(nodes, n.Far))
			if near != far && near != far+1 {
				t.Errorf("BuildTree(%v, %d) = %v has %d nodes in Near and %d in Far of %d", list, kind, nodes, near, far, i)
			}
		}
	})
}

func TestP146SearchesBeginAtTheTop(t *testing.T) {
	for _, list := range searchStores() {
		for _, kind := range treeKinds() {
			if len(list) == 0 {
				continue
			}
			got := impl.TreeVisits(list, kind, list[0].At, 1)
			if got < 1 || len(list) == 1 && got != 1 {
				t.Errorf("TreeVisits(%v, %d) at the first item = %d", list, kind, got)
			}
		}
	}
}

func TestP147WhoWantsMoreLooksAtMore(t *testing.T) {
	more := 0
	eachSearch(treeKinds(), func(list []impl.Item, kind int, at []int) {
		last := impl.TreeVisits(list, kind, at, 1)
		for k := 2; k <= impl.MaxItems; k++ {
			got := impl.TreeVisits(list, kind, at, k)
			if got < last || last < 0 {
				t.Errorf("TreeVisits(%v, %d, %v, %d) = %d, and for one less %d", list, kind, at, k, got, last)
			}
			if got > last {
				more++
			}
			last = got
		}
	})
	if more < 100 {
		t.Errorf("only %d searches for one item more look at more", more)
	}
}
