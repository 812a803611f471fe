package impl

// Dims is the number of coordinates of a vector.
const Dims = 4

// MaxCoord is the largest absolute coordinate.
const MaxCoord = 100

// MaxItems is the largest number of items of a store.
const MaxItems = 16

// DistSum is the sum of differences.
const DistSum = 1

// DistMost is the greatest difference.
const DistMost = 2

// DistSquare is the sum of squares of differences.
const DistSquare = 3

// DistCount is the number of differences.
const DistCount = 4

// perMille is the whole of what is told in per mille.
const perMille = 1000

// point holds the coordinates of a vector. It is an array, so that a copy of it shares no memory.
type point [Dims]int

// ValidVector reports whether a vector is valid.
func ValidVector(v []int) bool {
	return len(v) == Dims && validCoords(v)
}

// validCoords reports whether numbers can all be coordinates of a vector, however many there are.
func validCoords(coords []int) bool {
	for _, c := range coords {
		if c < -MaxCoord || c > MaxCoord {
			return false
		}
	}
	return true
}

// validVectors reports whether there is at least one vector, at most a number of them, and each one is valid.
func validVectors(list [][]int, most int) bool {
	if len(list) < 1 || len(list) > most {
		return false
	}
	for _, v := range list {
		if !ValidVector(v) {
			return false
		}
	}
	return true
}

// Distance returns the distance of two vectors.
func Distance(kind int, a []int, b []int) int {
	if !ValidVector(a) || !ValidVector(b) {
		return -1
	}
	return distanceOf(kind, gapsOf(point(a), point(b)))
}

// validKind reports whether there is such a kind of distances.
func validKind(kind int) bool {
	return kind >= DistSum && kind <= DistCount
}

// gapsOf returns the absolute differences of coordinates.
func gapsOf(a point, b point) point {
	var gaps point
	for i := range gaps {
		gaps[i] = max(a[i]-b[i], b[i]-a[i])
	}
	return gaps
}

// distanceOf returns the distance that absolute differences make, or -1 if there is no such kind.
func distanceOf(kind int, gaps point) int {
	total := 0
	for _, gap := range gaps {
		switch kind {
		case DistSum:
			total += gap
		case DistMost:
			total = max(total, gap)
		case DistSquare:
			total += gap * gap
		case DistCount:
			total += min(gap, 1)
		default:
			return -1
		}
	}
	return total
}

// DotOf returns the sum of products of coordinates.
func DotOf(a []int, b []int) (int, bool) {
	if !ValidVector(a) || !ValidVector(b) {
		return 0, false
	}
	sum := 0
	for i := range Dims {
		sum += a[i] * b[i]
	}
	return sum, true
}

// MeanOf returns the mean of vectors.
func MeanOf(list [][]int) []int {
	if !validVectors(list, MaxItems) {
		return nil
	}
	var mean point
	for _, v := range list {
		for i, c := range v {
			mean[i] += c
		}
	}
	for i, sum := range mean {
		mean[i] = divideDown(sum, len(list))
	}
	return mean[:]
}

// MoveTo returns a vector on the way to another one.
func MoveTo(a []int, b []int, part int) []int {
	if !ValidVector(a) || !ValidVector(b) || part < 0 || part > perMille {
		return nil
	}
	var out point
	for i := range out {
		out[i] = a[i] + divideDown((b[i]-a[i])*part, perMille)
	}
	return out[:]
}

// divideDown divides by a positive number and rounds down, where Go's division rounds negative quotients up.
func divideDown(n int, by int) int {
	quotient := n / by
	if n%by < 0 {
		quotient--
	}
	return quotient
}
