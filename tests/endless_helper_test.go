package tests

import (
	"slices"
	"testing"

	"loop.example/g01276/impl"
)

// samePlain reports whether two plains are the same; a nil and an empty slice are the same value.
func samePlain(p, q impl.Plain) bool {
	return p.Rule == q.Rule && slices.Equal(p.Spots, q.Spots) && p.X == q.X && p.Y == q.Y && p.Way == q.Way
}

// isZeroPlain reports whether a plain has all its fields zero.
func isZeroPlain(p impl.Plain) bool { return samePlain(p, impl.Plain{}) }

// wantPlain checks that a call succeeded with a plain.
func wantPlain(t *testing.T, call string, got impl.Plain, ok bool, want impl.Plain) {
	t.Helper()
	if !ok || !samePlain(got, want) {
		t.Errorf("%s is %+v, %v; want %+v", call, got, ok, want)
	}
}

// wantNoPlain checks that a call failed, with a plain that is zero.
func wantNoPlain(t *testing.T, call string, got impl.Plain, ok bool) {
	t.Helper()
	if ok || !isZeroPlain(got) {
		t.Errorf("%s is %+v, %v; want none", call, got, ok)
	}
}

// somePlain returns a plain with cells around the middle painted, as far as to far.
func (n *numbers) somePlain(rule string, far int) impl.Plain {
	p := impl.Plain{Rule: rule, X: n.below(2*far+1) - far, Y: n.below(2*far+1) - far, Way: n.below(4)}
	for y := -far; y <= far; y++ {
		for x := -far; x <= far; x++ {
			if colour := n.below(len(rule)); colour > 0 && n.below(2) == 0 {
				p.Spots = append(p.Spots, impl.Spot{X: x, Y: y, Colour: colour})
			}
		}
	}
	return p
}

// samplePlains returns plains of all numbers of colours, without spots and with some, all of which are no farther than 6.
func samplePlains() []impl.Plain {
	n := &numbers{last: 11}
	var plains []impl.Plain
	for signs := 1; signs <= impl.MaxColours; signs++ {
		for _, far := range []int{0, 1, 2, 6} {
			plains = append(plains, n.somePlain(n.someRule(signs), far))
		}
		plains = append(plains, impl.Plain{Rule: n.someRule(signs), X: 3, Y: -2, Way: 1})
	}
	for _, rule := range []string{"L", "R", "N", "U", "LR", "RL", "LRNU", "UUNNLR"} {
		plains = append(plains, impl.Plain{Rule: rule}, n.somePlain(rule, 3))
	}
	return plains
}

// fullPlain returns a plain with so many spots of the colour 1, in rows of 30 from -15, -5 on.
func fullPlain(rule string, spots int) impl.Plain {
	p := impl.Plain{Rule: rule}
	for i := range spots {
		p.Spots = append(p.Spots, impl.Spot{X: i%30 - 15, Y: i/30 - 5, Colour: 1})
	}
	return p
}

// cellsOf returns the colours of a plain by their cells.
func cellsOf(p impl.Plain) map[[2]int]int {
	cells := map[[2]int]int{}
	for _, s := range p.Spots {
		cells[[2]int{s.Y, s.X}] = s.Colour
	}
	return cells
}

// plainOf returns the plain of a rule with such cells and an ant.
func plainOf(rule string, cells map[[2]int]int, x, y, way int) impl.Plain {
	p := impl.Plain{Rule: rule, X: x, Y: y, Way: way}
	for at, colour := range cells {
		if colour != 0 {
			p.Spots = append(p.Spots, impl.Spot{X: at[1], Y: at[0], Colour: colour})
		}
	}
	slices.SortFunc(p.Spots, func(a, b impl.Spot) int {
		if a.Y != b.Y {
			return a.Y - b.Y
		}
		return a.X - b.X
	})
	return p
}

// walked returns the signs of so many steps and the plain behind them, found from the document's words alone, without its limits.
func walked(p impl.Plain, steps int) (string, impl.Plain) {
	cells := cellsOf(p)
	left := map[int]int{0: 3, 3: 2, 2: 1, 1: 0}
	x, y, way := p.X, p.Y, p.Way
	var signs []byte
	for range steps {
		colour := cells[[2]int{y, x}]
		sign := p.Rule[colour]
		for range map[byte]int{'L': 1, 'U': 2, 'R': 3, 'N': 0}[sign] {
			way = left[way]
		}
		cells[[2]int{y, x}] = (colour + 1) % len(p.Rule)
		switch way {
		case 0:
			y--
		case 1:
			x++
		case 2:
			y++
		case 3:
			x--
		}
		signs = append(signs, sign)
	}
	return string(signs), plainOf(p.Rule, cells, x, y, way)
}
