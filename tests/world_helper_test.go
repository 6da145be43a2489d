package tests

import (
	"testing"

	"loop.example/g01276/impl"
)

// read returns the world with a text, and ends the test if there is none.
func read(t *testing.T, text string) impl.World {
	t.Helper()
	w, ok := impl.ParseWorld(text)
	if !ok {
		t.Fatalf("ParseWorld(%q) fails", text)
	}
	return w
}

// wantWorld checks that a call succeeded with the world of a text.
func wantWorld(t *testing.T, call string, got impl.World, ok bool, text string) {
	t.Helper()
	if want := read(t, text); !ok || got != want {
		t.Errorf("%s is %+v, %v; want %s", call, got, ok, text)
	}
}

// numbers gives the same row of numbers in each run.
type numbers struct{ last uint32 }

func (n *numbers) below(limit int) int {
	n.last = n.last*1664525 + 1013904223
	return int(n.last>>8) % limit
}

// someRule returns a rule of so many signs.
func (n *numbers) someRule(signs int) string {
	rule := make([]byte, signs)
	for i := range rule {
		rule[i] = "LRNU"[n.below(4)]
	}
	return string(rule)
}

// someWorld returns a world of a rule and a size.
func (n *numbers) someWorld(rule string, width, height int) impl.World {
	cells := make([]byte, width*height)
	for i := range cells {
		cells[i] = byte('0' + n.below(len(rule)))
	}
	return impl.World{Rule: rule, Width: width, Height: height, Cells: string(cells),
		X: n.below(width), Y: n.below(height), Way: n.below(4)}
}

// sampleWorlds returns worlds of all numbers of colours, one cell, a row, a column, the greatest size, and others.
func sampleWorlds() []impl.World {
	n := &numbers{last: 7}
	sizes := [][2]int{{1, 1}, {1, 9}, {9, 1}, {2, 1}, {1, 2}, {2, 2}, {3, 2}, {4, 5}, {9, 9}}
	var worlds []impl.World
	for signs := 1; signs <= impl.MaxColours; signs++ {
		for _, size := range sizes {
			worlds = append(worlds, n.someWorld(n.someRule(signs), size[0], size[1]))
		}
	}
	for _, rule := range []string{"L", "R", "N", "U", "LR", "RL", "LRNU", "UUNNLR"} {
		worlds = append(worlds, n.someWorld(rule, 1, 1), n.someWorld(rule, 3, 4), n.someWorld(rule, 9, 9))
	}
	return worlds
}

// plainStep returns the sign of a step and the world behind it, found from the document's words alone.
func plainStep(w impl.World) (byte, impl.World) {
	cells := []byte(w.Cells)
	at := w.Y*w.Width + w.X
	colour := int(cells[at] - '0')
	sign := w.Rule[colour]
	left := map[int]int{0: 3, 3: 2, 2: 1, 1: 0}
	right := map[int]int{0: 1, 1: 2, 2: 3, 3: 0}
	switch sign {
	case 'L':
		w.Way = left[w.Way]
	case 'R':
		w.Way = right[w.Way]
	case 'U':
		w.Way = left[left[w.Way]]
	}
	if colour == len(w.Rule)-1 {
		cells[at] = '0'
	} else {
		cells[at]++
	}
	w.Cells = string(cells)
	switch w.Way {
	case 0:
		if w.Y--; w.Y < 0 {
			w.Y = w.Height - 1
		}
	case 1:
		if w.X++; w.X == w.Width {
			w.X = 0
		}
	case 2:
		if w.Y++; w.Y == w.Height {
			w.Y = 0
		}
	case 3:
		if w.X--; w.X < 0 {
			w.X = w.Width - 1
		}
	}
	return sign, w
}

// plainSteps returns the signs of so many steps and the world behind them.
func plainSteps(w impl.World, steps int) (string, impl.World) {
	signs := make([]byte, steps)
	for i := range signs {
		signs[i], w = plainStep(w)
	}
	return string(signs), w
}

// colourSum returns the sum of all colours.
func colourSum(w impl.World) int {
	sum := 0
	for _, cell := range w.Cells {
		sum += int(cell - '0')
	}
	return sum
}
