package queue

import (
	"cmp"
	"math/rand"
	"slices"
	"testing"
)

type card struct{ rank, suit int }

func (c card) Compare(other card) int {
	return cmp.Or(cmp.Compare(c.rank, other.rank), cmp.Compare(c.suit, other.suit))
}

func popAll(q *Queue[card]) []card {
	var list []card
	for item, ok := q.Pop(); ok; item, ok = q.Pop() {
		list = append(list, item)
	}
	return list
}

func TestTheZeroQueueIsEmpty(t *testing.T) {
	var q Queue[card]
	for range 2 {
		if item, ok := q.Pop(); ok || item != (card{}) {
			t.Errorf("Pop = %v, %v", item, ok)
		}
	}
}

func TestTheLeastComesFirst(t *testing.T) {
	random := rand.New(rand.NewSource(1))
	for length := range 30 {
		var q Queue[card]
		var want []card
		for range length {
			item := card{random.Intn(4), random.Intn(9)}
			want = append(want, item)
			q.Push(item)
		}
		slices.SortFunc(want, card.Compare)
		if got := popAll(&q); !slices.Equal(got, want) {
			t.Errorf("popped: %v, want %v", got, want)
		}
	}
}

func TestPushesBetweenPops(t *testing.T) {
	random := rand.New(rand.NewSource(2))
	var q Queue[card]
	var model []card
	for range 5000 {
		if random.Intn(2) == 0 {
			item := card{random.Intn(20), random.Intn(20)}
			q.Push(item)
			model = append(model, item)
			slices.SortFunc(model, card.Compare)
			continue
		}
		item, ok := q.Pop()
		if ok != (len(model) > 0) || ok && item != model[0] {
			t.Fatalf("Pop = %v, %v, of %v", item, ok, model)
		}
		model = model[min(1, len(model)):]
	}
}

func TestEmptyTakesAllOut(t *testing.T) {
	var q Queue[card]
	q.Empty()
	for range 2 {
		for rank := range 5 {
			q.Push(card{rank, 1})
		}
		q.Empty()
		if got := popAll(&q); got != nil {
			t.Errorf("left: %v", got)
		}
	}
	q.Push(card{7, 7})
	if got := popAll(&q); !slices.Equal(got, []card{{7, 7}}) {
		t.Errorf("popped: %v", got)
	}
}

func TestWhatIsOutIsNotHeldOnTo(t *testing.T) {
	var q Queue[card]
	for rank := 1; rank <= 5; rank++ {
		q.Push(card{rank, 1})
	}
	q.Pop()
	q.Empty()
	for _, item := range q.items[:5] {
		if item != (card{}) {
			t.Errorf("held: %v", item)
		}
	}
}
