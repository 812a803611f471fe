package tests

import (
	"slices"
	"testing"

	"loop.example/vectorstore/impl"
)

func TestCheckOfOrdinary(t *testing.T) {
	for _, c := range []struct {
		b    []byte
		want int
	}{
		{nil, 1},
		{[]byte{}, 1},
		{bytesOf(0), 31},
		{bytesOf(5), 36},
		{bytesOf(219), 250},
		{bytesOf(220), 0},
		{bytesOf(221), 1},
		{bytesOf(250), 30},
		{bytesOf(251), 31},
		{bytesOf(255), 35},
		{bytesOf(0, 0), 208},
		{bytesOf(0, 5), 213},
		{bytesOf(5, 0), 112},
		{bytesOf(255, 255), 85},
		{bytesOf(220, 0, 0, 7), 7},
	} {
		if got := impl.CheckOf(c.b); got != c.want {
			t.Errorf("CheckOf(%v) = %d, not %d", c.b, got, c.want)
		}
	}
}

func TestCheckOfAll(t *testing.T) {
	for _, b := range sampleBytes() {
		if got := impl.CheckOf(b); got != wantCheck(b) {
			t.Errorf("CheckOf(%v) = %d, not %d", b, got, wantCheck(b))
		}
	}
}

func TestCheckOfTooMany(t *testing.T) {
	for _, b := range tooManyBytes() {
		if got := impl.CheckOf(b); got != -1 {
			t.Errorf("CheckOf %d bytes = %d", len(b), got)
		}
		if got := impl.CheckOf(b[:impl.MaxBytes]); got < 0 {
			t.Errorf("CheckOf %d bytes = %d", impl.MaxBytes, got)
		}
	}
}

func TestFormatPageOrdinary(t *testing.T) {
	for _, c := range []struct {
		list []impl.Item
		want []byte
	}{
		{nil, bytesOf(0, 31)},
		{[]impl.Item{}, bytesOf(0, 31)},
		{[]impl.Item{item(1, flat(-100), 0)}, bytesOf(1, 1, 0, 28, 28, 28, 28)},
		{[]impl.Item{item(99, flat(100), 15)}, bytesOf(1, 99, 15, 228, 228, 228, 228)},
		{[]impl.Item{item(7, vec(0, -1, 1, -100), 8)}, bytesOf(1, 7, 8, 128, 127, 129, 28)},
		{[]impl.Item{item(2, vec(1, 2, 3, 4), 5), item(3, vec(-4, -3, -2, -1), 6)}, bytesOf(2, 2, 5, 129, 130, 131, 132, 3, 6, 124, 125, 126, 127)},
	} {
		want := c.want
		if len(c.list) > 0 {
			want = append(want, byte(wantCheck(want)))
		}
		if got := impl.FormatPage(c.list); !slices.Equal(got, want) {
			t.Errorf("FormatPage(%v) = %v, not %v", c.list, got, want)
		}
	}
}

func TestFormatPageAll(t *testing.T) {
	for _, list := range pageStores() {
		got := impl.FormatPage(list)
		if !slices.Equal(got, wantPage(list)) || len(got) != 2+6*len(list) {
			t.Errorf("FormatPage(%v) = %v, not %v", list, got, wantPage(list))
		}
	}
}

func TestFormatPageInvalid(t *testing.T) {
	for _, list := range badStores() {
		if got := impl.FormatPage(list); len(got) != 0 {
			t.Errorf("FormatPage(%v) = %v", list, got)
		}
	}
}

func TestParsePageOrdinary(t *testing.T) {
	for _, c := range []struct {
		b    []byte
		want []impl.Item
	}{
		{bytesOf(0, 31), nil},
		{sealed(1, 1, 0, 28, 28, 28, 28), []impl.Item{item(1, flat(-100), 0)}},
		{sealed(1, 99, 15, 228, 228, 228, 228), []impl.Item{item(99, flat(100), 15)}},
		{sealed(1, 7, 8, 128, 127, 129, 28), []impl.Item{item(7, vec(0, -1, 1, -100), 8)}},
		{sealed(2, 2, 5, 129, 130, 131, 132, 3, 6, 124, 125, 126, 127), []impl.Item{item(2, vec(1, 2, 3, 4), 5), item(3, vec(-4, -3, -2, -1), 6)}},
	} {
		if got, ok := impl.ParsePage(c.b); !ok || !sameItems(got, c.want) {
			t.Errorf("ParsePage(%v) = %v, %v, not %v", c.b, got, ok, c.want)
		}
	}
}

func TestParsePageAll(t *testing.T) {
	for _, list := range pageStores() {
		if got, ok := impl.ParsePage(wantPage(list)); !ok || !sameItems(got, list) {
			t.Errorf("ParsePage(%v) = %v, %v, not %v", wantPage(list), got, ok, list)
		}
	}
}

func TestParsePageInvalid(t *testing.T) {
	for _, b := range badPages() {
		if got, ok := impl.ParsePage(b); ok || len(got) != 0 {
			t.Errorf("ParsePage(%v) = %v, %v", b, got, ok)
		}
	}
}

func TestParsePageOfItemsThatAreWrongAlone(t *testing.T) {
	for _, b := range [][]byte{
		sealed(2, 5, 0, 128, 128, 128, 128, 5, 0, 128, 128, 128, 128),
		sealed(2, 5, 0, 128, 128, 128, 128, 4, 0, 128, 128, 128, 128),
		sealed(1, 0, 0, 128, 128, 128, 128),
		sealed(1, 100, 0, 128, 128, 128, 128),
		sealed(1, 5, 16, 128, 128, 128, 128),
		sealed(1, 5, 0, 27, 128, 128, 128),
		sealed(1, 5, 0, 128, 128, 128, 229),
		sealed(rows(17, 17)...),
		sealed(rows(255, 255)...),
	} {
		if got, ok := impl.ParsePage(b); ok || len(got) != 0 {
			t.Errorf("ParsePage(%v) = %v, %v", b, got, ok)
		}
	}
}

func TestParsePageOfOneChangedByte(t *testing.T) {
	for _, many := range vec(0, 1, 2, 16) {
		page := sealed(rows(many, many)...)
		for i := range page {
			for changed := range 256 {
				b := slices.Clone(page)
				b[i] = byte(changed)
				if _, ok := impl.ParsePage(b); ok != (b[i] == page[i]) {
					t.Errorf("ParsePage(%v), where %d is changed from %d, = %v", b, i, page[i], ok)
				}
			}
		}
	}
}

func TestParsePageOfAllChecksums(t *testing.T) {
	for check, list := range checkStores() {
		if len(list) != 1 {
			t.Fatalf("no sample store has the checksum %d", check)
		}
		page := impl.FormatPage(list)
		if end := len(page) - 1; end != 7 || int(page[end]) != check {
			t.Fatalf("FormatPage(%v) = %v, without the checksum %d", list, page, check)
		}
		if got, ok := impl.ParsePage(page); !ok || !sameItems(got, list) {
			t.Errorf("ParsePage(%v) = %v, %v", page, got, ok)
		}
		// A checksum of 0 is no less missing than another one.
		if got, ok := impl.ParsePage(page[:7]); ok || len(got) != 0 {
			t.Errorf("ParsePage(%v) = %v, %v", page[:7], got, ok)
		}
	}
}

func TestParsePageOfShortBytes(t *testing.T) {
	for first := range 256 {
		if got, ok := impl.ParsePage(bytesOf(first)); ok || len(got) != 0 {
			t.Errorf("ParsePage of the byte %d = %v, %v", first, got, ok)
		}
		for second := range 256 {
			if got, ok := impl.ParsePage(bytesOf(first, second)); ok != (first == 0 && second == 31) || len(got) != 0 {
				t.Errorf("ParsePage of the bytes %d and %d = %v, %v", first, second, got, ok)
			}
		}
	}
}

func TestPageArgumentsAreNotChanged(t *testing.T) {
	for _, sample := range append(pageStores(), badStores()...) {
		list := roomyItems(sample)
		want := cloneItems(list)
		impl.FormatPage(list)
		if !sameMemory(list, want) {
			t.Errorf("arguments are changed: %v", list[:cap(list)])
		}
	}
	for _, sample := range slices.Concat(sampleBytes(), badPages(), [][]byte{sealed(rows(1, 1)...), sealed(rows(16, 16)...)}) {
		b := append(slices.Clone(sample), 71, 72, 73)[:len(sample)]
		want := slices.Clone(b[:cap(b)])
		impl.CheckOf(b)
		impl.ParsePage(b)
		if !slices.Equal(b[:cap(b)], want) {
			t.Errorf("arguments are changed: %v", b[:cap(b)])
		}
	}
}

func TestPageResultsAreFresh(t *testing.T) {
	for _, sample := range pageStores() {
		page := impl.FormatPage(sample)
		if overlap(page, impl.FormatPage(sample)) {
			t.Errorf("FormatPage(%v) twice shares its bytes", sample)
		}
		once, _ := impl.ParsePage(page)
		twice, _ := impl.ParsePage(page)
		checkFresh(t, "ParsePage", once, twice)
		if len(once) != len(sample) {
			t.Errorf("ParsePage(%v) = %v", page, once)
		}
		// The bytes are not needed any more.
		clear(page)
		if !sameItems(once, sample) {
			t.Errorf("ParsePage of cleared bytes = %v", once)
		}
	}
}

func TestPageResultsKeepNothing(t *testing.T) {
	list := taggedStore()
	for range 2 {
		page := impl.FormatPage(list)
		out, ok := impl.ParsePage(page)
		if !slices.Equal(page, wantPage(list)) || !ok || !sameItems(out, list) {
			t.Fatalf("FormatPage(%v) = %v, ParsePage = %v, %v", list, page, out, ok)
		}
		// What is done to a result does not come back in the next one.
		for _, x := range out {
			clear(x.At)
		}
		clear(out[:cap(out)])
		clear(page[:cap(page)])
	}
}
