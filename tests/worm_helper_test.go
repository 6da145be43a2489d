package tests

import (
	"slices"
	"strconv"
	"strings"
	"testing"

	"loop.example/g01276/impl"
)

// allTastes returns all tastes, in the order of bytes.
func allTastes() []string { return []string{"LNR", "LRN", "NLR", "NRL", "RLN", "RNL"} }

// joined is a line of a grid, told by the two nodes that it joins, the lesser one first: on grids of at least 3 by 3 no two lines join the same nodes.
type joined [2]int

// joinedBy returns the line that joins two nodes.
func joinedBy(a, b int) joined { return joined{min(a, b), max(a, b)} }

// plainWorm is a worm on a grid told by its lines, with what it does found from the document's words alone.
type plainWorm struct {
	width, height int
	lines         map[joined]bool
	x, y, way     int
}

// besideNode returns the node beside another one along a way.
func besideNode(width, height, x, y, way int) (int, int) {
	switch way {
	case 0:
		y--
	case 1:
		x++
	case 2:
		y++
	case 3:
		x--
	}
	switch {
	case x < 0:
		x = width - 1
	case y < 0:
		y = height - 1
	case x == width:
		x = 0
	case y == height:
		y = 0
	}
	return x, y
}

// lineOf returns the line at a node along a way.
func (p *plainWorm) lineOf(x, y, way int) joined {
	otherX, otherY := besideNode(p.width, p.height, x, y, way)
	return joinedBy(x+p.width*y, otherX+p.width*otherY)
}

// plainOfWorm returns the plain worm of a worm.
func plainOfWorm(w impl.Worm) *plainWorm {
	p := &plainWorm{width: w.Width, height: w.Height, lines: map[joined]bool{}, x: w.X, y: w.Y, way: w.Way}
	for y := range w.Height {
		for x := range w.Width {
			if w.Right[y*w.Width+x] == '1' {
				p.lines[p.lineOf(x, y, 1)] = true
			}
			if w.Down[y*w.Width+x] == '1' {
				p.lines[p.lineOf(x, y, 2)] = true
			}
		}
	}
	return p
}

// worm returns the worm of a plain worm.
func (p *plainWorm) worm() impl.Worm {
	w := impl.Worm{Width: p.width, Height: p.height, X: p.x, Y: p.y, Way: p.way}
	sign := map[bool]string{true: "1", false: "0"}
	for y := range p.height {
		for x := range p.width {
			w.Right += sign[p.lines[p.lineOf(x, y, 1)]]
			w.Down += sign[p.lines[p.lineOf(x, y, 2)]]
		}
	}
	return w
}

// eat lets the worm make a step and tells the sign by which it turns, or that it dies.
func (p *plainWorm) eat(taste string) (sign string, lives bool) {
	left := map[int]int{0: 3, 3: 2, 2: 1, 1: 0}
	for at := range taste {
		sign := taste[at : at+1]
		way := map[string]int{"L": left[p.way], "N": p.way, "R": left[left[left[p.way]]]}[sign]
		line := p.lineOf(p.x, p.y, way)
		if p.lines[line] {
			delete(p.lines, line)
			p.x, p.y = besideNode(p.width, p.height, p.x, p.y, way)
			p.way = way
			return sign, true
		}
	}
	return "", false
}

// plainLife is what a worm does until it dies: worms has it before each step, and where it dies.
type plainLife struct {
	worms []impl.Worm
	track []int
	meals string
}

// lifeOf lets a worm go until it dies.
func lifeOf(w impl.Worm, taste string) plainLife {
	p := plainOfWorm(w)
	life := plainLife{worms: []impl.Worm{w}, track: []int{w.Y*w.Width + w.X}}
	for {
		sign, lives := p.eat(taste)
		if !lives {
			return life
		}
		life.meals += sign
		life.track = append(life.track, p.y*p.width+p.x)
		life.worms = append(life.worms, p.worm())
	}
}

// steps returns how many steps the worm made.
func (l plainLife) steps() int { return len(l.meals) }

// death returns the worm where it died.
func (l plainLife) death() impl.Worm { return l.worms[len(l.worms)-1] }

// plainDegrees returns how many lines each node has.
func plainDegrees(w impl.Worm) []int {
	degrees := make([]int, w.Width*w.Height)
	for line := range plainOfWorm(w).lines {
		degrees[line[0]]++
		degrees[line[1]]++
	}
	return degrees
}

// plainOdd returns the nodes with an odd number of lines.
func plainOdd(w impl.Worm) []int {
	var odd []int
	for node, degree := range plainDegrees(w) {
		if degree%2 != 0 {
			odd = append(odd, node)
		}
	}
	return odd
}

// plainPieces returns into how many pieces the grid falls: each node has a name, at first its own, and a line gives both its nodes one name.
func plainPieces(w impl.Worm) int {
	names := make([]int, w.Width*w.Height)
	for node := range names {
		names[node] = node
	}
	for line := range plainOfWorm(w).lines {
		old, other := names[line[0]], names[line[1]]
		for node := range names {
			if names[node] == old {
				names[node] = other
			}
		}
	}
	slices.Sort(names)
	return len(slices.Compact(names))
}

// plainShifted returns the worm farther to the right and down, each of its lines told by where its nodes come.
func plainShifted(w impl.Worm, right, down int) impl.Worm {
	p := plainOfWorm(w)
	shifted := &plainWorm{width: p.width, height: p.height, lines: map[joined]bool{}, way: p.way}
	place := func(x, y int) (int, int) {
		for range right {
			x, y = besideNode(p.width, p.height, x, y, 1)
		}
		for range down {
			x, y = besideNode(p.width, p.height, x, y, 2)
		}
		return x, y
	}
	shifted.x, shifted.y = place(p.x, p.y)
	for line := range p.lines {
		oneX, oneY := place(line[0]%p.width, line[0]/p.width)
		otherX, otherY := place(line[1]%p.width, line[1]/p.width)
		shifted.lines[joinedBy(oneY*p.width+oneX, otherY*p.width+otherX)] = true
	}
	return shifted.worm()
}

// fullWorm returns the worm at 0, 0 with all lines.
func fullWorm(width, height int) impl.Worm {
	lines := strings.Repeat("1", width*height)
	return impl.Worm{Width: width, Height: height, Right: lines, Down: lines}
}

// bareWorm returns the worm at 0, 0 without lines.
func bareWorm(width, height int) impl.Worm {
	lines := strings.Repeat("0", width*height)
	return impl.Worm{Width: width, Height: height, Right: lines, Down: lines}
}

// gridSizes returns all widths and heights of grids.
func gridSizes() [][2]int {
	var sizes [][2]int
	for width := 3; width <= 6; width++ {
		for height := 3; height <= 6; height++ {
			sizes = append(sizes, [2]int{width, height})
		}
	}
	return sizes
}

// someLines returns a text of lines of which so many of ten are there.
func (n *numbers) someLines(count, there int) string {
	lines := make([]byte, count)
	for i := range lines {
		if lines[i] = '0'; n.below(10) < there {
			lines[i] = '1'
		}
	}
	return string(lines)
}

// someWorm returns a worm of a size of whose ten lines so many are there.
func (n *numbers) someWorm(width, height, there int) impl.Worm {
	return impl.Worm{Width: width, Height: height, Right: n.someLines(width*height, there), Down: n.someLines(width*height, there),
		X: n.below(width), Y: n.below(height), Way: n.below(4)}
}

// sampleWorms returns worms of all sizes, without lines, with few, many and all of them, some of which die at once.
func sampleWorms() []impl.Worm {
	n := &numbers{last: 61}
	var worms []impl.Worm
	for _, size := range gridSizes() {
		worms = append(worms, fullWorm(size[0], size[1]), bareWorm(size[0], size[1]))
		for _, there := range []int{0, 1, 3, 5, 7, 8, 9, 10} {
			worms = append(worms, n.someWorm(size[0], size[1], there), n.someWorm(size[0], size[1], there))
		}
	}
	return worms
}

// placesOnGrid returns a worm at all nodes of its grid, with all ways.
func placesOnGrid(w impl.Worm) []impl.Worm {
	var worms []impl.Worm
	for y := range w.Height {
		for x := range w.Width {
			for way := range 4 {
				w.X, w.Y, w.Way = x, y, way
				worms = append(worms, w)
			}
		}
	}
	return worms
}

// wormName tells a worm in the words of a test.
func wormName(w impl.Worm) string {
	name := strconv.Itoa(w.Width) + "x" + strconv.Itoa(w.Height) + ":" + w.Right + ":" + w.Down + ":"
	return name + strconv.Itoa(w.X) + "," + strconv.Itoa(w.Y) + "," + strconv.Itoa(w.Way)
}

// wormOf returns the worm with a text as it is told in tests, whatever the program reads.
func wormOf(text string) impl.Worm {
	number := func(text string, at int) int { return int(text[at] - '0') }
	parts := strings.Split(text, ":")
	return impl.Worm{Width: number(parts[0], 0), Height: number(parts[0], 2), Right: parts[1], Down: parts[2],
		X: number(parts[3], 0), Y: number(parts[3], 2), Way: number(parts[3], 4)}
}

// wantWorm checks that a call succeeded with a worm.
func wantWorm(t *testing.T, call string, got impl.Worm, ok bool, want impl.Worm) {
	t.Helper()
	if !ok || got != want {
		t.Errorf("%s is %+v, %v; want %s", call, got, ok, wormName(want))
	}
}

// wantNoWorm checks that a call failed, with a worm that is zero.
func wantNoWorm(t *testing.T, call string, got impl.Worm, ok bool) {
	t.Helper()
	if ok || got != (impl.Worm{}) {
		t.Errorf("%s is %+v, %v; want none", call, got, ok)
	}
}

// wantLife checks all that the program tells of the life of a worm.
func wantLife(t *testing.T, w impl.Worm, taste string, want plainLife) {
	t.Helper()
	what := " of " + wormName(w) + " with " + taste
	steps, ok := impl.LifeOf(w, taste)
	wantNumber(t, "LifeOf"+what, steps, ok, want.steps(), true)
	death, ok := impl.DeathOf(w, taste)
	wantWorm(t, "DeathOf"+what, death, ok, want.death())
	track, ok := impl.TrackOfWorm(w, taste)
	wantList(t, "TrackOfWorm"+what, track, ok, want.track...)
	meals, ok := impl.MealsOfWorm(w, taste)
	wantText(t, "MealsOfWorm"+what, meals, ok, want.meals, true)
	next, ok := impl.EatLine(w, taste)
	if want.steps() == 0 {
		wantNoWorm(t, "EatLine"+what, next, ok)
	} else {
		wantWorm(t, "EatLine"+what, next, ok, want.worms[1])
	}
}

// wantLongest checks LongestLife.
func wantLongest(t *testing.T, w impl.Worm, steps int, tastes ...string) {
	t.Helper()
	got, n, ok := impl.LongestLife(w)
	if !ok || n != steps || !slices.Equal(got, tastes) {
		t.Errorf("LongestLife of %s is %v, %d, %v; want %v, %d", wormName(w), got, n, ok, tastes, steps)
	}
}
