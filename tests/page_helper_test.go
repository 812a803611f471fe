package tests

import (
	"slices"

	"loop.example/vectorstore/impl"
)

// bytesOf returns numbers as bytes.
func bytesOf(list ...int) []byte {
	out := make([]byte, 0, len(list))
	for _, n := range list {
		out = append(out, byte(n))
	}
	return out
}

// spreadBytes returns bytes that are spread without a pattern.
func spreadBytes(seed uint64, many int) []byte {
	number := numbers(seed)
	out := make([]byte, many)
	for i := range out {
		out[i] = byte(number(0, 255))
	}
	return out
}

// sampleBytes returns bytes that have a checksum: none, one and as many as possible, 0, 255 and spread ones.
func sampleBytes() [][]byte {
	out := [][]byte{nil, {}, bytesOf(0, 5), bytesOf(1, 2, 3), bytesOf(255, 0, 255)}
	for n := range 256 {
		out = append(out, bytesOf(n))
	}
	for many := range impl.MaxBytes + 1 {
		out = append(out, make([]byte, many), slices.Repeat([]byte{255}, many), spreadBytes(uint64(many), many))
	}
	return out
}

// tooManyBytes returns bytes that have no checksum.
func tooManyBytes() [][]byte {
	var out [][]byte
	for _, many := range vec(impl.MaxBytes+1, impl.MaxBytes+2, 256, 1000, 10000) {
		out = append(out, make([]byte, many), slices.Repeat([]byte{255}, many), spreadBytes(uint64(many), many))
	}
	return out
}

// wantCheck returns the checksum of bytes, however many, from the last one on: each has a power of 31 as its weight.
func wantCheck(b []byte) int {
	sum, weight := 0, 1
	for _, c := range slices.Backward(b) {
		sum += int(c) * weight
		weight = weight * 31 % 251
	}
	return (sum + weight) % 251
}

// wantPage returns the page of a valid store.
func wantPage(list []impl.Item) []byte {
	page := bytesOf(len(list))
	for _, x := range list {
		page = slices.Concat(page, bytesOf(x.Key, x.Tags, x.At[0]+128, x.At[1]+128, x.At[2]+128, x.At[3]+128))
	}
	return append(page, byte(wantCheck(page)))
}

// sealed returns numbers as bytes with their checksum behind them.
func sealed(list ...int) []byte {
	out := bytesOf(list...)
	return append(out, byte(wantCheck(out)))
}

// rows returns a number, and as many items as another one tells in the bytes of a page.
func rows(number int, many int) []int {
	out := vec(number)
	for i := range many {
		out = append(out, i+1, i%16, 128, 28, 228, 128)
	}
	return out
}

// checkStores returns stores with one item, whose pages have all checksums from 0 on.
func checkStores() [][]impl.Item {
	out := make([][]impl.Item, 251)
	for key := 1; key <= 3; key++ {
		for c := -impl.MaxCoord; c <= impl.MaxCoord; c++ {
			list := []impl.Item{item(key, vec(1, 2, 3, c), 5)}
			page := wantPage(list)
			out[page[len(page)-1]] = list
		}
	}
	return out
}

// pageStores returns valid stores of all sizes, with coordinates and tags at their limits, and with all checksums.
func pageStores() [][]impl.Item {
	out := searchStores()
	for _, c := range vec(-100, -1, 0, 1, 100) {
		for _, tags := range vec(0, 1, impl.MaxTags) {
			list := fullStore()
			for i := range list {
				list[i] = item(list[i].Key, flat(c), tags)
			}
			out = append(out, list, list[:1], list[15:])
		}
	}
	return append(append(out, checkStores()...), taggedStore())
}

// sizedPages returns pages of a wrong size for their number of items, with a right checksum.
func sizedPages() [][]byte {
	var out [][]byte
	for _, many := range vec(0, 1, 2, 15, 16, 17, 32, 33, 34, 255) {
		for _, number := range vec(0, 1, 2, 15, 16, 17, 32, 33, 34, 128, 255) {
			if number != many || many > impl.MaxItems {
				out = append(out, sealed(rows(number, many)...))
			}
		}
		whole := rows(many, many)
		for cut := 1; cut <= 6 && cut <= len(whole)-1; cut++ {
			out = append(out, sealed(whole[:len(whole)-cut]...))
		}
		for _, more := range [][]int{{0}, {1}, {255}, {0, 0}, {1, 2, 3, 4, 5}} {
			out = append(out, sealed(append(whole, more...)...))
		}
	}
	return out
}

// outOfRangePages returns pages of a right size and with a right checksum, whose items make no valid store.
func outOfRangePages() [][]byte {
	var out [][]byte
	for _, many := range vec(1, 2, 3, 16) {
		for i := range many {
			change := func(place int, bad ...int) {
				for _, b := range bad {
					list := rows(many, many)
					list[1+6*i+place] = b
					out = append(out, sealed(list...))
				}
			}
			// Keys that do not ascend, and keys, tags and coordinates out of range.
			for other := range many {
				if other != i {
					change(0, other+1)
				}
			}
			change(0, 0, 100, 101, 128, 228, 255)
			change(1, 16, 17, 32, 128, 240, 255)
			for place := 2; place <= 5; place++ {
				change(place, 0, 1, 20, 27, 229, 230, 255)
			}
		}
	}
	return out
}

// badPages returns bytes that are no page of a store.
func badPages() [][]byte {
	out := [][]byte{nil, {}, bytesOf(0), bytesOf(1), bytesOf(31), bytesOf(0, 0), bytesOf(0, 30), bytesOf(0, 32), bytesOf(31, 0), bytesOf(0, 31, 0), bytesOf(0, 31, 31), bytesOf(0, 31, 0, 31), sealed()}
	for _, many := range vec(1, 2, 9, impl.MaxItems) {
		page := sealed(rows(many, many)...)
		for wrong := range 256 {
			if wrong != int(page[len(page)-1]) {
				out = append(out, append(slices.Clone(page[:len(page)-1]), byte(wrong)))
			}
		}
		for cut := range page {
			out = append(out, page[:cut], page[len(page)-cut:])
		}
	}
	return slices.Concat(out, sizedPages(), outOfRangePages(), tooManyBytes())
}
