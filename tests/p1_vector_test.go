package tests

import (
	"slices"
	"testing"

	"loop.example/vectorstore/impl"
)

// eachPair calls a function for all pairs of sample vectors.
func eachPair(f func(a []int, b []int)) {
	for _, a := range sampleVectors() {
		for _, b := range sampleVectors() {
			f(a, b)
		}
	}
}

// dot returns DotOf two vectors that are known to be valid.
func dot(t *testing.T, a []int, b []int) int {
	t.Helper()
	n, ok := impl.DotOf(a, b)
	if !ok {
		t.Fatalf("DotOf(%v, %v) fails", a, b)
	}
	return n
}

// sampleLists returns lists of vectors that have a mean.
func sampleLists() [][][]int {
	all := sampleVectors()
	var out [][][]int
	for size := 1; size <= impl.MaxItems; size++ {
		for first := 0; first+size <= len(all); first += 3 {
			out = append(out, all[first:first+size])
		}
	}
	return out
}

func TestP1VectorsTurnAround(t *testing.T) {
	for _, v := range sampleVectors() {
		if !impl.ValidVector(v) || !impl.ValidVector(negated(v)) {
			t.Errorf("%v or its opposite is not valid", v)
		}
	}
}

func TestP2DistanceOrder(t *testing.T) {
	eachPair(func(a []int, b []int) {
		for _, kind := range allKinds() {
			there, back := impl.Distance(kind, a, b), impl.Distance(kind, b, a)
			if there != back || there < 0 || (there == 0) != slices.Equal(a, b) {
				t.Errorf("Distance(%d, %v, %v) = %d, and %d back", kind, a, b, there, back)
			}
		}
	})
}

func TestP3KindsCompare(t *testing.T) {
	eachPair(func(a []int, b []int) {
		sum, most := impl.Distance(impl.DistSum, a, b), impl.Distance(impl.DistMost, a, b)
		square, count := impl.Distance(impl.DistSquare, a, b), impl.Distance(impl.DistCount, a, b)
		if most > sum || count > sum || sum > square {
			t.Errorf("distances of %v and %v are %d, %d, %d, %d", a, b, sum, most, square, count)
		}
	})
}

func TestP4Detours(t *testing.T) {
	zero := flat(0)
	eachPair(func(a []int, b []int) {
		for _, kind := range vec(impl.DistSum, impl.DistMost, impl.DistCount) {
			if impl.Distance(kind, a, b) > impl.Distance(kind, a, zero)+impl.Distance(kind, zero, b) {
				t.Errorf("the detour from %v to %v is shorter for kind %d", a, b, kind)
			}
		}
	})
}

func TestP5ProductsMakeSquares(t *testing.T) {
	eachPair(func(a []int, b []int) {
		want := dot(t, a, a) + dot(t, b, b) - 2*dot(t, a, b)
		if got := impl.Distance(impl.DistSquare, a, b); got != want {
			t.Errorf("DistSquare of %v and %v is %d, not %d", a, b, got, want)
		}
	})
}

func TestP6ProductsAreBounded(t *testing.T) {
	eachPair(func(a []int, b []int) {
		if n := dot(t, a, b); n*n > dot(t, a, a)*dot(t, b, b) {
			t.Errorf("DotOf(%v, %v) = %d is too large", a, b, n)
		}
	})
}

func TestP7MeansAreBetween(t *testing.T) {
	for _, list := range sampleLists() {
		mean := impl.MeanOf(list)
		if !impl.ValidVector(mean) {
			t.Fatalf("MeanOf(%v) = %v", list, mean)
		}
		for i := range impl.Dims {
			low, high := list[0][i], list[0][i]
			for _, v := range list {
				low, high = min(low, v[i]), max(high, v[i])
			}
			if mean[i] < low || mean[i] > high {
				t.Errorf("MeanOf(%v) = %v", list, mean)
			}
		}
	}
}

func TestP8OwnMean(t *testing.T) {
	for _, v := range sampleVectors() {
		if !slices.Equal(impl.MeanOf([][]int{v}), v) || !slices.Equal(impl.MeanOf([][]int{v, v, v}), v) {
			t.Errorf("%v is not its own mean", v)
		}
	}
}

func TestP9WaysHaveEnds(t *testing.T) {
	eachPair(func(a []int, b []int) {
		if !slices.Equal(impl.MoveTo(a, b, 0), a) || !slices.Equal(impl.MoveTo(a, b, 1000), b) {
			t.Errorf("the way from %v to %v has other ends", a, b)
		}
		for _, part := range vec(1, 2, 250, 499, 500, 501, 998, 999) {
			got := impl.MoveTo(a, b, part)
			if !impl.ValidVector(got) {
				t.Fatalf("MoveTo(%v, %v, %d) = %v", a, b, part, got)
			}
			for i, c := range got {
				if c < min(a[i], b[i]) || c > max(a[i], b[i]) {
					t.Errorf("MoveTo(%v, %v, %d) = %v", a, b, part, got)
				}
			}
		}
	})
}

func TestP10MovingComesNearer(t *testing.T) {
	eachPair(func(a []int, b []int) {
		least := impl.Distance(impl.DistMost, a, b)
		for part := 0; part <= 1000; part += 20 {
			dist := impl.Distance(impl.DistMost, impl.MoveTo(a, b, part), b)
			if dist < 0 || dist > least+1 {
				t.Errorf("MoveTo(%v, %v, %d) is %d away, behind %d", a, b, part, dist, least)
			}
			least = min(least, dist)
		}
	})
}

func TestP131ZeroDoesNotMatter(t *testing.T) {
	checked := 0
	eachPair(func(a []int, b []int) {
		for _, by := range [][]int{flat(1), flat(-3), vec(5, -5, 0, 7), vec(0, 0, 0, -90), flat(100), flat(-100)} {
			x, y := moved(a, by), moved(b, by)
			if !impl.ValidVector(x) || !impl.ValidVector(y) {
				continue
			}
			checked++
			for _, kind := range allKinds() {
				if n := impl.Distance(kind, x, y); n < 0 || n != impl.Distance(kind, a, b) {
					t.Errorf("Distance(%d) of %v and %v changes when moved by %v", kind, a, b, by)
				}
			}
		}
	})
	if checked < 500 {
		t.Errorf("only %d pairs can be moved", checked)
	}
}

func TestP132OneCoordinate(t *testing.T) {
	for _, a := range sampleVectors() {
		for i := range impl.Dims {
			for _, c := range vec(-100, -1, 0, 1, 37, 100) {
				gap := max(c-a[i], a[i]-c)
				if gap == 0 {
					continue
				}
				b := slices.Clone(a)
				b[i] = c
				want := vec(gap, gap, gap*gap, 1)
				for k, kind := range allKinds() {
					if got := impl.Distance(kind, a, b); got != want[k] {
						t.Errorf("Distance(%d, %v, %v) = %d, not %d", kind, a, b, got, want[k])
					}
				}
			}
		}
	}
}

func TestP133ZerosAndOpposites(t *testing.T) {
	eachPair(func(a []int, b []int) {
		if dot(t, a, flat(0)) != 0 || dot(t, flat(0), a) != 0 {
			t.Errorf("DotOf %v and zeros is not 0", a)
		}
		if dot(t, a, negated(b)) != -dot(t, a, b) {
			t.Errorf("DotOf %v and the opposite of %v is not the opposite", a, b)
		}
	})
}

func TestP134OrderOfMeans(t *testing.T) {
	for _, list := range sampleLists() {
		back := slices.Clone(list)
		slices.Reverse(back)
		mean := impl.MeanOf(list)
		if !impl.ValidVector(mean) || !slices.Equal(impl.MeanOf(back), mean) {
			t.Errorf("MeanOf(%v) = %v, in reverse %v", list, mean, impl.MeanOf(back))
		}
	}
}

func TestP135WhoIsThereStays(t *testing.T) {
	for _, v := range sampleVectors() {
		for part := 0; part <= 1000; part += 25 {
			if got := impl.MoveTo(v, v, part); !slices.Equal(got, v) {
				t.Errorf("MoveTo(%v, itself, %d) = %v", v, part, got)
			}
		}
	}
}
