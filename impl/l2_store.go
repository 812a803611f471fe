package impl

import (
	"cmp"
	"slices"
)

// MaxKey is the largest key.
const MaxKey = 99

// MaxTags is the largest number of the tags of an item, one bit for each tag.
const MaxTags = 15

// Item is a vector with a key and tags.
type Item struct {
	Key  int
	At   []int
	Tags int
}

// ValidStore reports whether the items of a store are valid.
func ValidStore(list []Item) bool {
	if len(list) > MaxItems {
		return false
	}
	last := 0
	for _, x := range list {
		if !validItem(x) || x.Key <= last {
			return false
		}
		last = x.Key
	}
	return true
}

// validItem reports whether an item can be in a store.
func validItem(x Item) bool {
	return validKey(x.Key) && ValidVector(x.At) && validTags(x.Tags)
}

// validKey reports whether a key can be that of an item.
func validKey(key int) bool {
	return key >= 1 && key <= MaxKey
}

// validTags reports whether a number can be the tags of an item.
func validTags(tags int) bool {
	return tags >= 0 && tags <= MaxTags
}

// PutItem returns a store with an item.
func PutItem(list []Item, x Item) ([]Item, bool) {
	if !ValidStore(list) || !validItem(x) {
		return nil, false
	}
	i, found := placeOf(list, x.Key)
	if found {
		out := copyItems(list)
		out[i] = copyItem(x)
		return out, true
	}
	if len(list) == MaxItems {
		return nil, false
	}
	return slices.Insert(copyItems(list), i, copyItem(x)), true
}

// DropItem returns a store without an item.
func DropItem(list []Item, key int) ([]Item, bool) {
	if !ValidStore(list) {
		return nil, false
	}
	i, found := placeOf(list, key)
	if !found {
		return nil, false
	}
	return slices.Delete(copyItems(list), i, i+1), true
}

// GetItem returns the item with a key.
func GetItem(list []Item, key int) (Item, bool) {
	if !ValidStore(list) {
		return Item{}, false
	}
	i, found := placeOf(list, key)
	if !found {
		return Item{}, false
	}
	return copyItem(list[i]), true
}

// BoundsOf returns the least and the greatest coordinates.
func BoundsOf(list []Item) ([]int, []int, bool) {
	if !ValidStore(list) || len(list) == 0 {
		return nil, nil, false
	}
	low, high := point(list[0].At), point(list[0].At)
	for _, x := range list[1:] {
		for i, c := range x.At {
			low[i] = min(low[i], c)
			high[i] = max(high[i], c)
		}
	}
	return low[:], high[:], true
}

// placeOf returns where a key is in a valid store, or where it would be, and whether it is there.
func placeOf(list []Item, key int) (int, bool) {
	return slices.BinarySearchFunc(list, key, func(x Item, key int) int {
		return cmp.Compare(x.Key, key)
	})
}

// itemsThat returns those items that a function chooses, in order. Their vectors are not copied.
func itemsThat(list []Item, chosen func(Item) bool) []Item {
	var out []Item
	for _, x := range list {
		if chosen(x) {
			out = append(out, x)
		}
	}
	return out
}

// keysOf returns the keys of items.
func keysOf(list []Item) []int {
	keys := make([]int, len(list))
	for i, x := range list {
		keys[i] = x.Key
	}
	return keys
}

// equalItems reports whether two items are equal.
func equalItems(a Item, b Item) bool {
	return a.Key == b.Key && a.Tags == b.Tags && slices.Equal(a.At, b.At)
}

// hasItem reports whether a store has an item just so.
func hasItem(list []Item, x Item) bool {
	return slices.ContainsFunc(list, func(y Item) bool {
		return equalItems(x, y)
	})
}

// copyItem returns an item whose vector has memory of its own.
func copyItem(x Item) Item {
	return Item{Key: x.Key, At: slices.Clone(x.At), Tags: x.Tags}
}

// copyItems returns items whose vectors have memory of their own.
func copyItems(list []Item) []Item {
	out := make([]Item, len(list))
	for i, x := range list {
		out[i] = copyItem(x)
	}
	return out
}
