package stub

import (
	"slices"
	"testing"

	"stylet/api"
)

// orders gives all orders of the turns 0 to count-1.
func orders(count int) [][]int {
	if count == 0 {
		return [][]int{nil}
	}
	var all [][]int
	for _, order := range orders(count - 1) {
		for i := range count {
			all = append(all, slices.Insert(slices.Clone(order), i, count-1))
		}
	}
	return all
}

func TestP7PatchesComeOutByTheirTurn(t *testing.T) {
	for count := range api.MaxPatches + 1 {
		for _, order := range orders(count) {
			var waiting patches
			for _, turn := range order {
				waiting.put(patch{turn: turn, at: uint16(100 + turn)})
			}
			if waiting.full() != (count == api.MaxPatches) {
				t.Errorf("full with %d patches: %v", count, waiting.full())
			}
			for turn := range count {
				if one := waiting.take(); one.turn != turn || one.at != uint16(100+turn) {
					t.Errorf("put in as %v: %+v comes out at turn %d", order, one, turn)
				}
			}
			if waiting.count != 0 {
				t.Errorf("put in as %v: %d are left", order, waiting.count)
			}
		}
	}
}

// Between takings others are put in: the heap must hold then, too.
func TestP7PatchesPutInBetween(t *testing.T) {
	for _, order := range orders(api.MaxPatches) {
		for early := range api.MaxPatches {
			var waiting patches
			var left []int
			for i, turn := range order {
				waiting.put(patch{turn: turn})
				left = append(left, turn)
				if i == early {
					takeFirst(t, &waiting, &left)
				}
			}
			for len(left) > 0 {
				takeFirst(t, &waiting, &left)
			}
		}
	}
}

func takeFirst(t *testing.T, waiting *patches, left *[]int) {
	t.Helper()
	slices.Sort(*left)
	if one := waiting.take(); one.turn != (*left)[0] {
		t.Errorf("of %v turn %d comes out", *left, one.turn)
	}
	*left = (*left)[1:]
}
