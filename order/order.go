// Package order goes through maps in the order of their keys, so that no answer hangs on a map's own order.
package order

import (
	"iter"
	"maps"
	"slices"
)

// Key is what can be a map's key and can be held against others of its kind.
type Key[K any] interface {
	comparable
	Compare(other K) int
}

// Keys are the keys of a map, the least first.
func Keys[K Key[K], V any](m map[K]V) []K {
	return slices.SortedFunc(maps.Keys(m), func(a, b K) int { return a.Compare(b) })
}

// Walk goes through a map by its keys, the least first. The keys are those that the map has when a range begins, so that the range ends even if its body adds to the map; what has left the map when its turn comes is passed over.
func Walk[K Key[K], V any](m map[K]V) iter.Seq2[K, V] {
	return func(yield func(K, V) bool) {
		for _, key := range Keys(m) {
			if value, ok := m[key]; ok && !yield(key, value) {
				return
			}
		}
	}
}
