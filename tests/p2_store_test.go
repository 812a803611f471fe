package tests

import (
	"testing"

	"loop.example/vectorstore/impl"
)

// sampleItems returns valid items with some keys at and between the limits.
func sampleItems() []impl.Item {
	return []impl.Item{
		item(1, flat(-100), 0), item(1, flat(7), 15), item(99, flat(100), 15), item(99, flat(0), 0),
		item(5, vec(1, -2, 3, -4), 9), item(6, flat(1), 6), item(48, vec(0, 0, -1, 0), 2), item(50, vec(-50, 50, -50, 50), 8),
	}
}

// eachPut calls a function for all sample stores and items where PutItem has to succeed, with its result.
func eachPut(t *testing.T, f func(list []impl.Item, x impl.Item, out []impl.Item)) {
	t.Helper()
	for _, list := range sampleStores() {
		has := itemsOf(list)
		for _, x := range sampleItems() {
			if _, there := has[x.Key]; !there && len(list) == impl.MaxItems {
				continue
			}
			out, ok := impl.PutItem(list, x)
			if !ok {
				t.Fatalf("PutItem(%v, %v) fails", list, x)
			}
			f(list, x, out)
		}
	}
}

func TestP11ItemsCanBeLeftOut(t *testing.T) {
	for _, list := range sampleStores() {
		for i := range list {
			if !impl.ValidStore(without(list, i)) {
				t.Errorf("%v is not valid without the item at %d", list, i)
			}
		}
	}
}

func TestP12PutIsGot(t *testing.T) {
	eachPut(t, func(list []impl.Item, x impl.Item, out []impl.Item) {
		if got, ok := impl.GetItem(out, x.Key); !ok || !sameItem(got, x) || !impl.ValidStore(out) {
			t.Errorf("GetItem behind PutItem(%v, %v) = %v, %v", list, x, got, ok)
		}
	})
}

func TestP13OtherItemsStay(t *testing.T) {
	eachPut(t, func(list []impl.Item, x impl.Item, out []impl.Item) {
		has := itemsOf(list)
		for key := 1; key <= 99; key++ {
			if key == x.Key {
				continue
			}
			want, there := has[key]
			before, okBefore := impl.GetItem(list, key)
			after, okAfter := impl.GetItem(out, key)
			if okBefore != there || okAfter != there || !sameItem(before, want) || !sameItem(after, want) {
				t.Errorf("GetItem of %d behind PutItem(%v, %v) = %v, %v", key, list, x, after, okAfter)
			}
		}
	})
}

func TestP14LastItemCounts(t *testing.T) {
	eachPut(t, func(list []impl.Item, x impl.Item, out []impl.Item) {
		y := item(x.Key, vec(9, -9, 99, -99), 15-x.Tags)
		twice, okTwice := impl.PutItem(out, y)
		once, okOnce := impl.PutItem(list, y)
		if !okTwice || !okOnce || !sameItems(twice, once) {
			t.Errorf("PutItem twice of %d in %v = %v", x.Key, list, twice)
		}
	})
}

func TestP15DroppedItemsAreGone(t *testing.T) {
	for _, list := range sampleStores() {
		for _, x := range list {
			out, ok := impl.DropItem(list, x.Key)
			if !ok {
				t.Fatalf("DropItem(%v, %d) fails", list, x.Key)
			}
			if got, ok := impl.GetItem(out, x.Key); ok || !zeroItem(got) {
				t.Errorf("GetItem behind DropItem(%v, %d) = %v, %v", list, x.Key, got, ok)
			}
			if back, ok := impl.PutItem(out, x); !ok || !sameItems(back, list) {
				t.Errorf("PutItem behind DropItem(%v, %d) = %v, %v", list, x.Key, back, ok)
			}
		}
	}
}

func TestP16KeysLeadToItems(t *testing.T) {
	for _, list := range sampleStores() {
		has := itemsOf(list)
		for key := -1; key <= 101; key++ {
			want, there := has[key]
			if got, ok := impl.GetItem(list, key); ok != there || !sameItem(got, want) {
				t.Errorf("GetItem(%v, %d) = %v, %v", list, key, got, ok)
			}
		}
	}
}

func TestP18BoundsAreTight(t *testing.T) {
	for _, list := range sampleStores() {
		if len(list) == 0 {
			continue
		}
		low, high, ok := impl.BoundsOf(list)
		if !ok || !impl.ValidVector(low) || !impl.ValidVector(high) {
			t.Fatalf("BoundsOf(%v) = %v, %v, %v", list, low, high, ok)
		}
		for i := range impl.Dims {
			atLow, atHigh := false, false
			for _, x := range list {
				if x.At[i] < low[i] || x.At[i] > high[i] {
					t.Errorf("%v is outside of %v, %v", x, low, high)
				}
				atLow = atLow || x.At[i] == low[i]
				atHigh = atHigh || x.At[i] == high[i]
			}
			if !atLow || !atHigh {
				t.Errorf("BoundsOf(%v) = %v, %v are not tight", list, low, high)
			}
		}
	}
}

func TestP136OrderOfPutting(t *testing.T) {
	checked := 0
	eachPut(t, func(list []impl.Item, x impl.Item, withX []impl.Item) {
		for _, y := range sampleItems() {
			withY, okY := impl.PutItem(list, y)
			xy, okXY := impl.PutItem(withX, y)
			yx, okYX := impl.PutItem(withY, x)
			if y.Key == x.Key || !okY || !okXY {
				continue
			}
			checked++
			if !okYX || !sameItems(xy, yx) {
				t.Errorf("PutItem of %v and %v in %v depends on their order", x, y, list)
			}
		}
	})
	if checked < 200 {
		t.Errorf("only %d pairs can be put", checked)
	}
}

func TestP137OrderOfDropping(t *testing.T) {
	for _, list := range sampleStores() {
		for i, x := range list {
			for j, y := range list[:i] {
				withoutX, okX := impl.DropItem(list, x.Key)
				withoutY, okY := impl.DropItem(list, y.Key)
				xy, okXY := impl.DropItem(withoutX, y.Key)
				yx, okYX := impl.DropItem(withoutY, x.Key)
				if !okX || !okY || !okXY || !okYX || !sameItems(xy, yx) || !sameItems(xy, without(without(list, i), j)) {
					t.Errorf("DropItem of %d and %d from %v depends on their order", x.Key, y.Key, list)
				}
			}
		}
	}
}

func TestP138BoundsGrow(t *testing.T) {
	eachPut(t, func(list []impl.Item, x impl.Item, out []impl.Item) {
		if len(out) == len(list) || len(list) == 0 {
			return
		}
		low, high, okBefore := impl.BoundsOf(list)
		newLow, newHigh, okAfter := impl.BoundsOf(out)
		if !okBefore || !okAfter {
			t.Fatalf("BoundsOf of %v or %v fails", list, out)
		}
		for i := range impl.Dims {
			if newLow[i] > low[i] || newHigh[i] < high[i] {
				t.Errorf("BoundsOf(%v) = %v, %v, behind PutItem %v, %v", list, low, high, newLow, newHigh)
			}
		}
	})
}
