package tests

import (
	"slices"
	"testing"

	"loop.example/vectorstore/impl"
)

// checked returns CheckOf at most MaxBytes bytes, which has to be a checksum.
func checked(t *testing.T, b []byte) int {
	t.Helper()
	check := impl.CheckOf(b)
	if check < 0 {
		t.Fatalf("CheckOf(%v) = %d", b, check)
	}
	return check
}

// formatted returns FormatPage of a valid store, which has to have bytes for each item.
func formatted(t *testing.T, list []impl.Item) []byte {
	t.Helper()
	page := impl.FormatPage(list)
	if len(page) != 2+6*len(list) {
		t.Fatalf("FormatPage(%v) = %v", list, page)
	}
	return page
}

func TestP100ChecksumsGoByteByByte(t *testing.T) {
	for _, b := range sampleBytes() {
		if len(b) == 0 {
			continue
		}
		end := len(b) - 1
		want := (31*checked(t, b[:end]) + int(b[end])) % 251
		if got := checked(t, b); got != want {
			t.Errorf("CheckOf(%v) = %d, not %d", b, got, want)
		}
	}
	if got := impl.CheckOf(nil); got != 1 {
		t.Errorf("CheckOf no bytes = %d", got)
	}
}

func TestP101ChangedBytesAreFound(t *testing.T) {
	for _, b := range sampleBytes() {
		check := checked(t, b)
		for i, c := range b {
			if c == 0 {
				continue
			}
			less := slices.Clone(b)
			less[i]--
			if got := checked(t, less); got == check {
				t.Errorf("CheckOf(%v) = %d, and the same with less at %d", b, check, i)
			}
		}
	}
}

func TestP102PagesLoseNothing(t *testing.T) {
	for _, list := range pageStores() {
		page := formatted(t, list)
		if got, ok := impl.ParsePage(page); !ok || !sameItems(got, list) || !impl.ValidStore(got) {
			t.Errorf("ParsePage(%v) = %v, %v, not %v", page, got, ok, list)
		}
	}
}

func TestP103StoresHaveOnePage(t *testing.T) {
	accepted := 0
	check := func(b []byte) {
		list, ok := impl.ParsePage(b)
		if !ok {
			return
		}
		accepted++
		if got := impl.FormatPage(list); !impl.ValidStore(list) || !slices.Equal(got, b) {
			t.Errorf("FormatPage of ParsePage(%v) = %v", b, got)
		}
	}
	for _, b := range slices.Concat(badPages(), sampleBytes()) {
		check(b)
	}
	for _, list := range pageStores() {
		page := wantPage(list)
		for i := range page {
			for _, changed := range vec(0, 1, 15, 16, 28, 99, 100, 128, 228, 255) {
				b := slices.Clone(page[:len(page)-1])
				if i < len(b) {
					b[i] = byte(changed)
				}
				check(append(b, byte(wantCheck(b))))
				check(append(b, byte(changed)))
			}
		}
	}
	if accepted < 1000 {
		t.Errorf("only %d pages are accepted", accepted)
	}
}

func TestP104PagesHaveChecksums(t *testing.T) {
	for _, list := range pageStores() {
		page := formatted(t, list)
		end := len(page) - 1
		if int(page[end]) != impl.CheckOf(page[:end]) {
			t.Errorf("FormatPage(%v) = %v", list, page)
		}
		for other := range 256 {
			b := append(slices.Clone(page[:end]), byte(other))
			if got, ok := impl.ParsePage(b); ok != (b[end] == page[end]) {
				t.Errorf("ParsePage(%v) = %v, %v", b, got, ok)
			}
		}
	}
}

func TestP166ChecksumsAreSmall(t *testing.T) {
	seen := map[int]bool{}
	for _, b := range sampleBytes() {
		check := checked(t, b)
		if check >= 251 {
			t.Errorf("CheckOf(%v) = %d", b, check)
		}
		seen[check] = true
	}
	if len(seen) != 251 {
		t.Errorf("CheckOf has %d results", len(seen))
	}
}

func TestP167ShortPagesAreNoPages(t *testing.T) {
	for _, list := range pageStores() {
		page := formatted(t, list)
		if got, ok := impl.ParsePage(page[:len(page)-1]); ok || len(got) != 0 {
			t.Errorf("ParsePage(%v) = %v, %v", page[:len(page)-1], got, ok)
		}
		for more := range 256 {
			b := append(slices.Clone(page), byte(more))
			if got, ok := impl.ParsePage(b); ok || len(got) != 0 {
				t.Errorf("ParsePage(%v) = %v, %v", b, got, ok)
			}
		}
	}
}

func TestP179EmptyStoresHaveShortPages(t *testing.T) {
	for _, empty := range [][]impl.Item{nil, {}} {
		page := impl.FormatPage(empty)
		if len(page) != 2 {
			t.Fatalf("FormatPage of no items = %v", page)
		}
		if got, ok := impl.ParsePage(page); !ok || len(got) != 0 {
			t.Errorf("ParsePage(%v) = %v, %v", page, got, ok)
		}
	}
}
