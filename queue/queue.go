// Package queue has a queue that gives out the least first, whenever it was put in.
package queue

// Item is what can be held against others of its kind.
type Item[T any] interface {
	Compare(other T) int
}

// Queue is a heap: no item is less than the one right above it, which stands at half its place. The zero Queue is an empty one.
type Queue[T Item[T]] struct {
	items []T
}

// Push puts an item in.
func (q *Queue[T]) Push(item T) {
	q.items = append(q.items, item)
	at := len(q.items) - 1
rise:
	above := (at - 1) / 2
	if q.least(above, at) != above {
		q.swap(above, at)
		at = above
		goto rise
	}
}

// Pop takes the least item out; false: there is none.
func (q *Queue[T]) Pop() (T, bool) {
	if len(q.items) == 0 {
		var none T
		return none, false
	}
	last := len(q.items) - 1
	q.swap(0, last)
	item := q.items[last]
	q.cut(last)
	at := 0
fall:
	least := q.least(at, 2*at+1, 2*at+2)
	if least != at {
		q.swap(least, at)
		at = least
		goto fall
	}
	return item, true
}

// Empty takes all items out.
func (q *Queue[T]) Empty() { q.cut(0) }

// cut clears what it takes off, so that the memory behind the end holds on to nothing.
func (q *Queue[T]) cut(length int) {
	clear(q.items[length:])
	q.items = q.items[:length]
}

// least is the place with the least item; places behind the end don't count, and among equals the first one stays.
func (q *Queue[T]) least(first int, others ...int) int {
	least := first
	for _, place := range others {
		if place < len(q.items) && q.items[place].Compare(q.items[least]) < 0 {
			least = place
		}
	}
	return least
}

func (q *Queue[T]) swap(one int, other int) {
	q.items[one], q.items[other] = q.items[other], q.items[one]
}
