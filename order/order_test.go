package order

import (
	"cmp"
	"slices"
	"testing"
)

type pair struct{ high, low int }

func (p pair) Compare(other pair) int {
	return cmp.Or(cmp.Compare(p.high, other.high), cmp.Compare(p.low, other.low))
}

// many: more keys than a map could go through in order by chance.
func many() (map[pair]int, []pair) {
	m := map[pair]int{}
	var keys []pair
	for high := range 5 {
		for low := range 5 {
			keys = append(keys, pair{high, low})
			m[pair{high, low}] = 10*high + low
		}
	}
	return m, keys
}

func TestKeysAreInOrder(t *testing.T) {
	m, want := many()
	if got := Keys(m); !slices.Equal(got, want) {
		t.Errorf("Keys = %v", got)
	}
	if got := Keys(map[pair]string(nil)); len(got) != 0 {
		t.Errorf("Keys of no map = %v", got)
	}
}

func TestWalkTellsKeysWithTheirValues(t *testing.T) {
	m, want := many()
	walk := Walk(m)
	for range 2 {
		var got []pair
		for key, value := range walk {
			if value != 10*key.high+key.low {
				t.Errorf("value of %v = %d", key, value)
			}
			got = append(got, key)
		}
		if !slices.Equal(got, want) {
			t.Errorf("walked: %v", got)
		}
	}
}

func TestWalkEndsWhenTold(t *testing.T) {
	m, _ := many()
	count := 0
	for range Walk(m) {
		if count++; count == 3 {
			break
		}
	}
	if count != 3 {
		t.Errorf("walked %d", count)
	}
}

func TestWalkWhileTheMapTurns(t *testing.T) {
	m := map[pair]int{{0, 1}: 1, {0, 2}: 2, {0, 3}: 3}
	var got []int
	for key, value := range Walk(m) {
		got = append(got, value)
		m[pair{key.high + 1, key.low}] = 9
		delete(m, pair{0, 2})
	}
	if !slices.Equal(got, []int{1, 3}) {
		t.Errorf("walked: %v", got)
	}
}
