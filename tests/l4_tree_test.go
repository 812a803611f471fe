package tests

import (
	"slices"
	"testing"

	"loop.example/vectorstore/impl"
)

// node makes a node.
func node(key int, radius int, near int, far int) impl.Node {
	return impl.Node{Key: key, Radius: radius, Near: near, Far: far}
}

// wantTree returns the nodes of the tree of items in some order, with numbers from one on.
func wantTree(list []impl.Item, kind int, from int) []impl.Node {
	if len(list) == 0 {
		return nil
	}
	has := itemsOf(list)
	hits := wantHits(list[1:], kind, list[0].At)
	top := node(list[0].Key, 0, -1, -1)
	var inNear, inFar []impl.Item
	for i, h := range hits {
		if 2*i < len(hits) {
			inNear = append(inNear, has[h.Key])
			top.Radius = max(top.Radius, h.Dist)
		} else {
			inFar = append(inFar, has[h.Key])
		}
	}
	near := wantTree(inNear, kind, from+1)
	far := wantTree(inFar, kind, from+1+len(near))
	if len(near) > 0 {
		top.Near = from + 1
	}
	if len(far) > 0 {
		top.Far = from + 1 + len(near)
	}
	return slices.Concat([]impl.Node{top}, near, far)
}

// lookAround is a search in a tree, as the document tells it.
type lookAround struct {
	nodes  []impl.Node
	items  map[int]impl.Item
	kind   int
	at     []int
	k      int
	found  []impl.Hit
	visits int
}

// reach returns how far a further item may be away.
func (l *lookAround) reach() int {
	if len(l.found) < l.k {
		return 1000000
	}
	return l.found[l.k-1].Dist
}

// visit looks at a node, and goes on with those below it.
func (l *lookAround) visit(number int) {
	if number < 0 {
		return
	}
	n := l.nodes[number]
	d := impl.Distance(l.kind, l.at, l.items[n.Key].At)
	l.visits++
	i := 0
	for i < len(l.found) && (l.found[i].Dist < d || l.found[i].Dist == d && l.found[i].Key < n.Key) {
		i++
	}
	l.found = slices.Insert(l.found, i, hit(n.Key, d))
	l.found = l.found[:min(len(l.found), l.k)]
	if d <= n.Radius {
		l.visit(n.Near)
		if d+l.reach() >= n.Radius {
			l.visit(n.Far)
		}
		return
	}
	l.visit(n.Far)
	if d-l.reach() <= n.Radius {
		l.visit(n.Near)
	}
}

// wantSearch returns what a search finds, and how many nodes it looks at.
func wantSearch(list []impl.Item, kind int, at []int, k int) ([]impl.Hit, int) {
	l := lookAround{nodes: wantTree(list, kind, 0), items: itemsOf(list), kind: kind, at: at, k: k}
	if len(list) > 0 {
		l.visit(0)
	}
	return l.found, l.visits
}

func TestConstantsOfTrees(t *testing.T) {
	if impl.FarAway != 1000000 {
		t.Errorf("FarAway is %d", impl.FarAway)
	}
}

func TestBuildTreeSmall(t *testing.T) {
	for _, c := range []struct {
		list []impl.Item
		kind int
		want []impl.Node
	}{
		{nil, impl.DistSum, nil},
		{[]impl.Item{}, impl.DistCount, nil},
		{[]impl.Item{item(99, flat(100), 15)}, impl.DistSum, []impl.Node{node(99, 0, -1, -1)}},
		{[]impl.Item{item(1, flat(100), 15), item(99, flat(-100), 0)}, impl.DistSum, []impl.Node{node(1, 800, 1, -1), node(99, 0, -1, -1)}},
		{[]impl.Item{item(1, flat(100), 15), item(99, flat(-100), 0)}, impl.DistMost, []impl.Node{node(1, 200, 1, -1), node(99, 0, -1, -1)}},
		{[]impl.Item{item(1, flat(100), 15), item(99, flat(-100), 0)}, impl.DistCount, []impl.Node{node(1, 4, 1, -1), node(99, 0, -1, -1)}},
		{line(4, 4), impl.DistSum, []impl.Node{node(1, 0, 1, -1), node(2, 0, -1, -1)}},
		{line(0, 3, 7), impl.DistSum, []impl.Node{node(1, 3, 1, 2), node(2, 0, -1, -1), node(3, 0, -1, -1)}},
		{line(0, 7, 3), impl.DistSum, []impl.Node{node(1, 3, 1, 2), node(3, 0, -1, -1), node(2, 0, -1, -1)}},
		{line(0, 5, -5), impl.DistMost, []impl.Node{node(1, 5, 1, 2), node(2, 0, -1, -1), node(3, 0, -1, -1)}},
		{line(0, -5, 5), impl.DistMost, []impl.Node{node(1, 5, 1, 2), node(2, 0, -1, -1), node(3, 0, -1, -1)}},
		{line(0, 50, -5), impl.DistCount, []impl.Node{node(1, 1, 1, 2), node(2, 0, -1, -1), node(3, 0, -1, -1)}},
	} {
		if got := impl.BuildTree(c.list, c.kind); !slices.Equal(got, c.want) {
			t.Errorf("BuildTree(%v, %d) = %v, not %v", c.list, c.kind, got, c.want)
		}
	}
}

func TestBuildTreeOrder(t *testing.T) {
	want := []impl.Node{node(1, 3, 1, 3), node(3, 2, 2, -1), node(4, 0, -1, -1), node(5, 4, 4, -1), node(2, 0, -1, -1)}
	if got := impl.BuildTree(line(0, 9, 1, 3, 5), impl.DistSum); !slices.Equal(got, want) {
		t.Errorf("BuildTree = %v, not %v", got, want)
	}
	// Below the top the distances to the top of each tree decide: from 4 the place 6 is nearer than -5.
	want = []impl.Node{node(1, 6, 1, 4), node(2, 2, 2, 3), node(4, 0, -1, -1), node(3, 0, -1, -1), node(5, 10, 5, -1), node(6, 0, -1, -1)}
	if got := impl.BuildTree(line(0, 4, -5, 6, 50, 60), impl.DistMost); !slices.Equal(got, want) {
		t.Errorf("BuildTree = %v, not %v", got, want)
	}
}

func TestBuildTreeFull(t *testing.T) {
	list := fullStore()
	for i := range list {
		list[i].At = flat(7)
	}
	below := [][2]int{{1, 9}, {2, 6}, {3, 5}, {4, -1}, {-1, -1}, {-1, -1}, {7, 8}, {-1, -1}, {-1, -1}, {10, 13}, {11, 12}, {-1, -1}, {-1, -1}, {14, 15}, {-1, -1}, {-1, -1}}
	for _, kind := range treeKinds() {
		got := treeOf(t, list, kind)
		for i, n := range got {
			if n != node(6*(i+1), 0, below[i][0], below[i][1]) {
				t.Errorf("the node %d of 16 items at one point is %v", i, n)
			}
		}
	}
}

func TestBuildTreeAll(t *testing.T) {
	for _, list := range searchStores() {
		for _, kind := range treeKinds() {
			want := wantTree(list, kind, 0)
			if got := impl.BuildTree(list, kind); !slices.Equal(got, want) {
				t.Errorf("BuildTree(%v, %d) = %v, not %v", list, kind, got, want)
			}
		}
	}
}

func TestBuildTreeInvalid(t *testing.T) {
	for _, list := range searchStores() {
		for _, kind := range append(badKinds(), impl.DistSquare) {
			if got := impl.BuildTree(list, kind); len(got) != 0 {
				t.Errorf("BuildTree(%v, %d) = %v", list, kind, got)
			}
		}
	}
	for _, list := range badStores() {
		for _, kind := range treeKinds() {
			if got := impl.BuildTree(list, kind); len(got) != 0 {
				t.Errorf("BuildTree(%v, %d) = %v", list, kind, got)
			}
		}
	}
}

func TestIsTreeOfNoItems(t *testing.T) {
	for _, kind := range treeKinds() {
		for _, empty := range [][]impl.Item{nil, {}} {
			for _, nodes := range [][]impl.Node{nil, {}} {
				if !impl.IsTreeOf(nodes, empty, kind) || impl.IsTreeOf(nodes, line(0), kind) {
					t.Errorf("IsTreeOf of no nodes is wrong for kind %d", kind)
				}
			}
			for _, n := range []impl.Node{{}, node(1, 0, -1, -1)} {
				if impl.IsTreeOf([]impl.Node{n}, empty, kind) {
					t.Errorf("%v is the tree of no items", n)
				}
			}
		}
	}
}

func TestIsTreeOfInvalid(t *testing.T) {
	for _, list := range searchStores() {
		for _, kind := range append(badKinds(), impl.DistSquare) {
			for _, nodes := range [][]impl.Node{nil, impl.BuildTree(list, impl.DistSum), wantTree(list, impl.DistSquare, 0)} {
				if impl.IsTreeOf(nodes, list, kind) {
					t.Errorf("IsTreeOf(%v, %v, %d)", nodes, list, kind)
				}
			}
		}
	}
	for _, list := range badStores() {
		for _, kind := range treeKinds() {
			for _, nodes := range [][]impl.Node{nil, {}, impl.BuildTree(list, kind), wantTree(list, kind, 0)} {
				if impl.IsTreeOf(nodes, list, kind) {
					t.Errorf("IsTreeOf(%v, %v, %d)", nodes, list, kind)
				}
			}
		}
	}
}

// searchCase is a search with what it finds and how many nodes it looks at.
type searchCase struct {
	list   []impl.Item
	at     []int
	k      int
	want   []impl.Hit
	visits int
}

// checkSearches checks searches for DistSum.
func checkSearches(t *testing.T, cases []searchCase) {
	t.Helper()
	for _, c := range cases {
		got, visits := impl.TreeNearest(c.list, impl.DistSum, c.at, c.k), impl.TreeVisits(c.list, impl.DistSum, c.at, c.k)
		if !slices.Equal(got, c.want) || visits != c.visits {
			t.Errorf("the search in %v at %v for %d finds %v with %d visits, not %v with %d", c.list, c.at, c.k, got, visits, c.want, c.visits)
		}
	}
}

func TestTreeSearchOrdinary(t *testing.T) {
	list := []impl.Item{item(1, flat(0), 1), item(2, vec(3, 0, 0, 0), 3), item(3, vec(0, 4, 0, 0), 4), item(4, vec(10, 10, 0, 0), 0)}
	at := vec(10, 10, 0, 0)
	checkSearches(t, []searchCase{
		{list, at, 1, []impl.Hit{hit(4, 0)}, 2},
		{list, at, 4, []impl.Hit{hit(4, 0), hit(3, 16), hit(2, 17), hit(1, 20)}, 4},
		{list, at, 16, []impl.Hit{hit(4, 0), hit(3, 16), hit(2, 17), hit(1, 20)}, 4},
		{nil, at, 1, nil, 0},
		{[]impl.Item{}, at, 16, nil, 0},
		{line(3), at, 1, []impl.Hit{hit(1, 17)}, 1},
		{line(3), at, 16, []impl.Hit{hit(1, 17)}, 1},
	})
}

func TestTreeSearchTurnsBack(t *testing.T) {
	// The tops of Near and Far are at 1 and 5, behind them are 3 and 9, and the Radius of the top at 0 is 3.
	list := line(0, 9, 1, 3, 5)
	// Here the tops are at 2 and 5 instead.
	other := line(0, 9, 2, 3, 5)
	checkSearches(t, []searchCase{
		// From Far into Near, where the smaller key is just as far: the distance 4 minus the reach 1 is the Radius.
		{list, vec(4, 0, 0, 0), 1, []impl.Hit{hit(4, 1)}, 5},
		// Not from Far into Near: the distance 5 minus the reach 0 is greater.
		{list, vec(5, 0, 0, 0), 1, []impl.Hit{hit(5, 0)}, 3},
		// With one more item the reach is larger.
		{list, vec(5, 0, 0, 0), 2, []impl.Hit{hit(5, 0), hit(4, 2)}, 5},
		// From Near into Far: the distance 2 plus the reach 1 is the Radius.
		{list, vec(2, 0, 0, 0), 1, []impl.Hit{hit(3, 1)}, 5},
		// Not from Near into Far: the distance 1 plus the reach 0 is less.
		{list, vec(1, 0, 0, 0), 1, []impl.Hit{hit(3, 0)}, 3},
		// The reach is that behind Near, 0, not the one before it, 2.
		{other, vec(2, 0, 0, 0), 1, []impl.Hit{hit(3, 0)}, 3},
		// The distance 3 is just the Radius, so Near comes first, and Far, too, since the reach does not matter.
		{other, vec(3, 0, 0, 0), 1, []impl.Hit{hit(4, 0)}, 5},
		{list, vec(3, 0, 0, 0), 1, []impl.Hit{hit(4, 0)}, 5},
		// Far away from all, only Far is looked at, if one item is wanted.
		{list, vec(100, 0, 0, 0), 1, []impl.Hit{hit(2, 91)}, 3},
		{list, vec(100, 0, 0, 0), 2, []impl.Hit{hit(2, 91), hit(5, 95)}, 3},
		{list, vec(100, 0, 0, 0), 3, []impl.Hit{hit(2, 91), hit(5, 95), hit(4, 97)}, 5},
	})
}

func TestTreeSearchEqualDistances(t *testing.T) {
	list := corners(10)
	var all []impl.Hit
	for i := range impl.MaxItems {
		all = append(all, hit(3+5*i, 40))
	}
	for k := 1; k <= impl.MaxItems; k++ {
		if got := impl.TreeNearest(list, impl.DistSum, flat(0), k); !slices.Equal(got, all[:k]) {
			t.Errorf("TreeNearest of %d corners = %v", k, got)
		}
	}
	same := tieStores()[0]
	for k := 1; k <= impl.MaxItems; k++ {
		// All radii are 0, so at the items each second tree is just in reach, and away from them, too.
		for _, at := range [][]int{flat(7), flat(8), flat(-100)} {
			for _, kind := range treeKinds() {
				if got := impl.TreeVisits(same, kind, at, k); got != 16 {
					t.Errorf("TreeVisits of 16 items at one point from %v for %d = %d", at, k, got)
				}
			}
		}
	}
}

func TestTreeSearchAll(t *testing.T) {
	few := 0
	eachSearch(treeKinds(), func(list []impl.Item, kind int, at []int) {
		for k := 1; k <= impl.MaxItems; k++ {
			want, wantVisits := wantSearch(list, kind, at, k)
			got, visits := impl.TreeNearest(list, kind, at, k), impl.TreeVisits(list, kind, at, k)
			if !slices.Equal(got, want) || visits != wantVisits {
				t.Errorf("the search in %v, kind %d, at %v for %d finds %v with %d visits, not %v with %d", list, kind, at, k, got, visits, want, wantVisits)
			}
			if visits < len(list) {
				few++
			}
		}
	})
	if few < 100 {
		t.Errorf("only %d searches do not look at all nodes", few)
	}
}

func TestTreeSearchInvalid(t *testing.T) {
	check := func(list []impl.Item, kind int, at []int, k int) {
		if got := impl.TreeNearest(list, kind, at, k); len(got) != 0 {
			t.Errorf("TreeNearest(%v, %d, %v, %d) = %v", list, kind, at, k, got)
		}
		if got := impl.TreeVisits(list, kind, at, k); got != -1 {
			t.Errorf("TreeVisits(%v, %d, %v, %d) = %d", list, kind, at, k, got)
		}
	}
	badSearches(treeKinds(), append(badKinds(), impl.DistSquare), check)
	eachSearch(vec(impl.DistSquare), func(list []impl.Item, kind int, at []int) {
		check(list, kind, at, 1)
		check(list, kind, at, impl.MaxItems)
	})
}

func TestTreeArgumentsAreNotChanged(t *testing.T) {
	for _, sample := range searchStores() {
		list, at := roomyItems(sample), roomy(flat(-3))
		want, wantAt := cloneItems(list), slices.Clone(at[:cap(at)])
		for _, kind := range allKinds() {
			nodes := append(impl.BuildTree(list, kind), node(71, 1, 2, 3), node(72, 4, 5, 6))
			wantNodes := slices.Clone(nodes)
			impl.IsTreeOf(nodes[:len(nodes)-2], list, kind)
			impl.IsTreeOf(nodes, list, kind)
			for _, k := range vec(1, 3, impl.MaxItems) {
				impl.TreeNearest(list, kind, at, k)
				impl.TreeVisits(list, kind, at, k)
			}
			if !slices.Equal(nodes, wantNodes) {
				t.Errorf("nodes are changed: %v, not %v", nodes, wantNodes)
			}
		}
		if !sameMemory(list, want) || !slices.Equal(at[:cap(at)], wantAt) {
			t.Errorf("arguments are changed: %v, %v", list[:cap(list)], at[:cap(at)])
		}
	}
}

func TestTreeResultsAreFresh(t *testing.T) {
	for _, list := range searchStores() {
		for _, kind := range treeKinds() {
			nodes := impl.BuildTree(list, kind)
			if overlap(nodes, impl.BuildTree(list, kind)) {
				t.Errorf("two trees of kind %d of %v share their nodes", kind, list)
			}
			hits := impl.TreeNearest(list, kind, flat(0), 5)
			if overlap(hits, impl.TreeNearest(list, kind, flat(0), 5)) || overlap(hits, impl.Nearest(list, kind, flat(0), 5)) {
				t.Errorf("two searches of kind %d in %v share their hits", kind, list)
			}
			for i := range nodes {
				nodes[i] = node(0, -1, -2, -3)
			}
			if !slices.Equal(impl.BuildTree(list, kind), wantTree(list, kind, 0)) || impl.IsTreeOf(nodes, list, kind) && len(list) > 0 {
				t.Errorf("a changed result changes the tree of kind %d of %v", kind, list)
			}
		}
	}
}
