package tests

import (
	"slices"
	"testing"

	"loop.example/vectorstore/impl"
)

func TestConstantsOfVectors(t *testing.T) {
	got := vec(impl.Dims, impl.MaxCoord, impl.MaxItems, impl.DistSum, impl.DistMost, impl.DistSquare, impl.DistCount)
	if !slices.Equal(got, vec(4, 100, 16, 1, 2, 3, 4)) {
		t.Errorf("constants are %v", got)
	}
}

func TestValidVector(t *testing.T) {
	for _, v := range sampleVectors() {
		if !impl.ValidVector(v) {
			t.Errorf("%v is not valid", v)
		}
	}
	for _, v := range badVectors() {
		if impl.ValidVector(v) {
			t.Errorf("%v is valid", v)
		}
	}
	for i := range impl.Dims {
		for c := -102; c <= 102; c++ {
			v := flat(0)
			v[i] = c
			if impl.ValidVector(v) != (c >= -100 && c <= 100) {
				t.Errorf("ValidVector(%v) = %v", v, impl.ValidVector(v))
			}
		}
	}
}

func TestDistanceOrdinary(t *testing.T) {
	for _, c := range []struct {
		a, b                     []int
		sum, most, square, count int
	}{
		{vec(1, 2, 3, 4), vec(1, 0, 6, 4), 5, 3, 13, 2},
		{vec(0, 0, 0, 0), vec(0, 0, 0, 0), 0, 0, 0, 0},
		{vec(0, 0, 0, 0), vec(-1, 2, -3, 4), 10, 4, 30, 4},
		{vec(-5, 0, 0, 0), vec(5, 0, 0, 0), 10, 10, 100, 1},
		{flat(100), flat(-100), 800, 200, 160000, 4},
		{flat(-100), flat(100), 800, 200, 160000, 4},
		{vec(9, 1, 1, 1), vec(0, 0, 0, 0), 12, 9, 84, 4},
		{vec(1, 1, 1, 9), vec(0, 0, 0, 0), 12, 9, 84, 4},
	} {
		for i, want := range vec(c.sum, c.most, c.square, c.count) {
			if got := impl.Distance(i+1, c.a, c.b); got != want {
				t.Errorf("Distance(%d, %v, %v) = %d, not %d", i+1, c.a, c.b, got, want)
			}
		}
	}
}

func TestDistanceInvalid(t *testing.T) {
	good := vec(1, 2, 3, 4)
	for _, kind := range append(badNumbers(), 0, 5) {
		for _, other := range [][]int{good, flat(0), flat(100)} {
			if got := impl.Distance(kind, good, other); got != -1 {
				t.Errorf("Distance(%d, %v, %v) = %d", kind, good, other, got)
			}
		}
	}
	for _, kind := range append(allKinds(), 0) {
		for _, bad := range badVectors() {
			if impl.Distance(kind, good, bad) != -1 || impl.Distance(kind, bad, good) != -1 || impl.Distance(kind, bad, bad) != -1 {
				t.Errorf("Distance of %v and kind %d is not -1", bad, kind)
			}
		}
	}
}

func TestDotOfOrdinary(t *testing.T) {
	for _, c := range []struct {
		a, b []int
		want int
	}{
		{vec(1, 2, 3, 4), vec(1, 0, 6, 4), 35},
		{vec(1, 2, 3, 4), vec(-1, -2, -3, -4), -30},
		{vec(1, 0, 0, 0), vec(0, 1, 1, 1), 0},
		{vec(0, 0, 0, 7), vec(0, 0, 0, -3), -21},
		{flat(100), flat(100), 40000},
		{flat(100), flat(-100), -40000},
		{flat(-100), flat(-100), 40000},
	} {
		if got, ok := impl.DotOf(c.a, c.b); !ok || got != c.want {
			t.Errorf("DotOf(%v, %v) = %d, %v, not %d", c.a, c.b, got, ok, c.want)
		}
	}
}

func TestDotOfInvalid(t *testing.T) {
	good := flat(100)
	for _, bad := range badVectors() {
		for _, pair := range [][2][]int{{good, bad}, {bad, good}, {bad, bad}} {
			if got, ok := impl.DotOf(pair[0], pair[1]); ok || got != 0 {
				t.Errorf("DotOf(%v, %v) = %d, %v", pair[0], pair[1], got, ok)
			}
		}
	}
}

func TestMeanOfOrdinary(t *testing.T) {
	for _, c := range []struct {
		list [][]int
		want []int
	}{
		{[][]int{{1, 0, 0, 0}, {2, 0, 0, -1}}, vec(1, 0, 0, -1)},
		{[][]int{{1, -1, 2, -2}, {0, 0, 0, 0}, {0, 0, 0, 0}}, vec(0, -1, 0, -1)},
		{[][]int{{-1, -2, -3, -4}, {0, 0, 0, 0}, {0, 0, 0, 0}}, vec(-1, -1, -1, -2)},
		{[][]int{{-2, 2, -4, 4}, {-2, 2, -4, 4}}, vec(-2, 2, -4, 4)},
		{[][]int{flat(100), flat(-100)}, flat(0)},
		{[][]int{flat(-100), flat(-99)}, flat(-100)},
		{[][]int{flat(100), flat(99)}, flat(99)},
		{slices.Repeat([][]int{flat(-100)}, 16), flat(-100)},
		{slices.Repeat([][]int{flat(100)}, 16), flat(100)},
		{append(slices.Repeat([][]int{flat(0)}, 15), flat(-1)), flat(-1)},
		{append(slices.Repeat([][]int{flat(0)}, 15), flat(15)), flat(0)},
		{append(slices.Repeat([][]int{flat(0)}, 15), flat(16)), flat(1)},
	} {
		if got := impl.MeanOf(c.list); !slices.Equal(got, c.want) {
			t.Errorf("MeanOf(%v) = %v, not %v", c.list, got, c.want)
		}
	}
}

func TestMeanOfInvalid(t *testing.T) {
	bad := [][][]int{nil, {}, slices.Repeat([][]int{flat(0)}, 17), slices.Repeat([][]int{flat(1)}, 1000)}
	for _, v := range badVectors() {
		bad = append(bad, [][]int{v}, [][]int{v, flat(1)}, [][]int{flat(1), v}, [][]int{flat(1), v, flat(1)})
	}
	for _, list := range bad {
		if got := impl.MeanOf(list); len(got) != 0 {
			t.Errorf("MeanOf(%v) = %v", list, got)
		}
	}
}

func TestMoveToOrdinary(t *testing.T) {
	for _, c := range []struct {
		a, b []int
		part int
		want []int
	}{
		{vec(0, 0, 0, 0), vec(10, -10, 1, -1), 500, vec(5, -5, 0, -1)},
		{vec(10, 10, 10, 10), vec(7, 13, 6, 14), 500, vec(8, 11, 8, 12)},
		{flat(100), flat(-100), 1, flat(99)},
		{flat(-100), flat(100), 1, flat(-100)},
		{flat(100), flat(-100), 999, flat(-100)},
		{flat(-100), flat(100), 999, flat(99)},
		{flat(100), flat(-100), 500, flat(0)},
		{vec(0, 0, 0, 0), vec(100, -100, 1, -1), 999, vec(99, -100, 0, -1)},
		{vec(-3, 3, -3, 3), vec(-4, 4, -2, 2), 1, vec(-4, 3, -3, 2)},
		{vec(1, 2, 3, 4), vec(5, 6, 7, 8), 0, vec(1, 2, 3, 4)},
		{vec(1, 2, 3, 4), vec(5, 6, 7, 8), 1000, vec(5, 6, 7, 8)},
		{vec(1, 2, 3, 4), vec(5, 6, 7, 8), 250, vec(2, 3, 4, 5)},
	} {
		if got := impl.MoveTo(c.a, c.b, c.part); !slices.Equal(got, c.want) {
			t.Errorf("MoveTo(%v, %v, %d) = %v, not %v", c.a, c.b, c.part, got, c.want)
		}
	}
}

func TestMoveToInvalid(t *testing.T) {
	good := vec(1, 2, 3, 4)
	for _, part := range append(badNumbers(), 1001) {
		if got := impl.MoveTo(good, flat(0), part); len(got) != 0 {
			t.Errorf("MoveTo with part %d = %v", part, got)
		}
	}
	for _, bad := range badVectors() {
		for _, part := range vec(0, 500, 1000) {
			if len(impl.MoveTo(good, bad, part)) != 0 || len(impl.MoveTo(bad, good, part)) != 0 || len(impl.MoveTo(bad, bad, part)) != 0 {
				t.Errorf("MoveTo of %v with part %d is a vector", bad, part)
			}
		}
	}
}

func TestVectorsAreNotChanged(t *testing.T) {
	a, b := roomy(vec(1, -2, 3, -100)), roomy(vec(100, 0, -6, 4))
	wantA, wantB := slices.Clone(a[:cap(a)]), slices.Clone(b[:cap(b)])
	list := [][]int{a, b, a, {9, 9, 9, 9}}[:3]
	impl.ValidVector(a)
	for _, kind := range allKinds() {
		impl.Distance(kind, a, b)
	}
	impl.DotOf(a, b)
	for size := range 4 {
		impl.MeanOf(list[:size])
	}
	for _, part := range vec(0, 333, 1000) {
		impl.MoveTo(a, b, part)
	}
	if !slices.Equal(a[:cap(a)], wantA) || !slices.Equal(b[:cap(b)], wantB) {
		t.Errorf("arguments are changed: %v, %v", a[:cap(a)], b[:cap(b)])
	}
	if &list[0][0] != &a[0] || &list[1][0] != &b[0] || &list[2][0] != &a[0] || !slices.Equal(list[:4][3], flat(9)) {
		t.Errorf("the list of vectors is changed: %v", list[:4])
	}
}

func TestVectorsAreFresh(t *testing.T) {
	a, b := roomy(vec(1, 2, 3, 4)), roomy(vec(5, 6, 7, 8))
	for _, list := range [][][]int{{a}, {a, a, a}, {a, b}} {
		got := impl.MeanOf(list)
		if overlap(got, a) || overlap(got, b) || overlap(got, impl.MeanOf(list)) {
			t.Errorf("MeanOf(%v) shares memory", list)
		}
	}
	for _, part := range vec(0, 500, 1000) {
		got := impl.MoveTo(a, b, part)
		if overlap(got, a) || overlap(got, b) || overlap(got, impl.MoveTo(a, b, part)) {
			t.Errorf("MoveTo with part %d shares memory", part)
		}
	}
	if got := impl.MoveTo(a, a, 0); overlap(got, a) {
		t.Error("MoveTo of a vector and itself shares memory")
	}
}
