package tests

import (
	"slices"
	"strconv"
	"testing"

	"loop.example/g01276/impl"
)

// rolled is what a ball does until it comes out, found from the document's words alone; comesOut is false if it never does.
type rolled struct {
	comesOut bool
	exit     int
	hits     int
	balls    []impl.Ball
	maze     impl.Maze
}

// hitWays tells the ways behind mirrors that are entered with a way.
var hitWays = map[byte][4]int{'.': {0, 1, 2, 3}, 'Z': {1, 0, 3, 2}, 'S': {3, 2, 1, 0}}

// plainEnds returns the places of all ends, around to the right from above at the left.
func plainEnds(m impl.Maze) [][2]int {
	var ends [][2]int
	for x := 0; x < m.Width; x++ {
		ends = append(ends, [2]int{x, -1})
	}
	for y := 0; y < m.Height; y++ {
		ends = append(ends, [2]int{m.Width, y})
	}
	for x := m.Width - 1; x >= 0; x-- {
		ends = append(ends, [2]int{x, m.Height})
	}
	for y := m.Height - 1; y >= 0; y-- {
		ends = append(ends, [2]int{-1, y})
	}
	return ends
}

// plainEntry returns the ball that comes in from an end.
func plainEntry(m impl.Maze, k int) impl.Ball {
	end := plainEnds(m)[k]
	switch {
	case end[1] < 0:
		return impl.Ball{X: end[0], Y: 0, Way: 2}
	case end[0] == m.Width:
		return impl.Ball{X: m.Width - 1, Y: end[1], Way: 3}
	case end[1] == m.Height:
		return impl.Ball{X: end[0], Y: m.Height - 1, Way: 0}
	}
	return impl.Ball{X: 0, Y: end[1], Way: 1}
}

// plainHit returns the maze and the ball behind one cell, and whether the ball has hit a mirror and is in the maze still.
func plainHit(m impl.Maze, b impl.Ball) (after impl.Maze, next impl.Ball, hit, inside bool) {
	at := b.X + b.Y*m.Width
	cell := m.Cells[at]
	b.Way = hitWays[cell][b.Way]
	if m.Turns && cell != '.' {
		other := map[byte]string{'Z': "S", 'S': "Z"}[cell]
		m.Cells = m.Cells[:at] + other + m.Cells[at+1:]
	}
	switch b.Way {
	case 0:
		b.Y--
	case 1:
		b.X++
	case 2:
		b.Y++
	case 3:
		b.X--
	}
	return m, b, cell != '.', b.X >= 0 && b.X < m.Width && b.Y >= 0 && b.Y < m.Height
}

// plainRoll lets a ball go until it comes out, or until it has entered more cells than any that comes out.
func plainRoll(m impl.Maze, b impl.Ball) rolled {
	r := rolled{maze: m}
	for inside := true; inside; {
		if len(r.balls) > 20000 || !m.Turns && len(r.balls) > 4*81 {
			return r
		}
		var hit bool
		r.balls = append(r.balls, b)
		r.maze, b, hit, inside = plainHit(r.maze, b)
		if hit {
			r.hits++
		}
	}
	r.comesOut = true
	r.exit = slices.Index(plainEnds(m), [2]int{b.X, b.Y})
	return r
}

// plainBalls returns all balls of a maze.
func plainBalls(m impl.Maze) []impl.Ball {
	var balls []impl.Ball
	for y := range m.Height {
		for x := range m.Width {
			for way := range 4 {
				balls = append(balls, impl.Ball{X: x, Y: y, Way: way})
			}
		}
	}
	return balls
}

// plainClosed returns how many closed tracks a maze has whose mirrors stay: those are different that go from other cells to other cells.
func plainClosed(m impl.Maze) int {
	tracks := map[string]bool{}
	for _, b := range plainBalls(m) {
		if plainRoll(m, b).comesOut {
			continue
		}
		var lines []int
		for start, first := b, true; first || b != start; first = false {
			from := b.X + b.Y*m.Width
			_, b, _, _ = plainHit(m, b)
			to := b.X + b.Y*m.Width
			lines = append(lines, 100*min(from, to)+max(from, to))
		}
		slices.Sort(lines)
		name := ""
		for _, line := range lines {
			name += strconv.Itoa(line) + " "
		}
		tracks[name] = true
	}
	return len(tracks)
}

// someMaze returns a maze of a size of whose ten cells so many are free.
func (n *numbers) someMaze(width, height, free int, turns bool) impl.Maze {
	cells := make([]byte, width*height)
	for i := range cells {
		if cells[i] = "ZS"[n.below(2)]; n.below(10) < free {
			cells[i] = '.'
		}
	}
	return impl.Maze{Width: width, Height: height, Cells: string(cells), Turns: turns}
}

// sampleMazes returns mazes with one cell, a row, a column, the greatest size, and others, without mirrors and with some, whose mirrors stay and turn.
func sampleMazes() []impl.Maze {
	n := &numbers{last: 31}
	var mazes []impl.Maze
	for _, size := range [][2]int{{1, 1}, {1, 9}, {9, 1}, {2, 1}, {1, 2}, {2, 2}, {3, 2}, {2, 5}, {4, 4}, {5, 3}, {7, 8}, {9, 9}} {
		for _, free := range []int{0, 1, 3, 6, 10} {
			mazes = append(mazes, n.someMaze(size[0], size[1], free, false), n.someMaze(size[0], size[1], free, true))
		}
	}
	return mazes
}

// smallMazes returns all mazes of some small sizes.
func smallMazes() []impl.Maze {
	var mazes []impl.Maze
	for _, size := range [][2]int{{1, 1}, {2, 1}, {1, 2}, {1, 3}, {3, 1}, {2, 2}, {3, 2}, {2, 3}} {
		for _, digits := range plainCells(3, size[0]*size[1]) {
			cells := []byte(digits)
			for i, digit := range cells {
				cells[i] = ".ZS"[digit-'0']
			}
			for _, turns := range []bool{false, true} {
				mazes = append(mazes, impl.Maze{Width: size[0], Height: size[1], Cells: string(cells), Turns: turns})
			}
		}
	}
	return mazes
}

// mazeName tells a maze in the words of a test.
func mazeName(m impl.Maze) string {
	name := strconv.Itoa(m.Width) + "x" + strconv.Itoa(m.Height) + ":" + m.Cells
	if m.Turns {
		name += "!"
	}
	return name
}

// ballName tells a ball in the words of a test.
func ballName(b impl.Ball) string {
	return strconv.Itoa(b.X) + "," + strconv.Itoa(b.Y) + "," + strconv.Itoa(b.Way)
}

// readMaze returns the maze with a text, and ends the test if there is none.
func readMaze(t *testing.T, text string) impl.Maze {
	t.Helper()
	m, ok := impl.ParseMaze(text)
	if !ok {
		t.Fatalf("ParseMaze(%q) fails", text)
	}
	return m
}

// wantMaze checks that a call succeeded with a maze.
func wantMaze(t *testing.T, call string, got impl.Maze, ok bool, want impl.Maze) {
	t.Helper()
	if !ok || got != want {
		t.Errorf("%s is %+v, %v; want %s", call, got, ok, mazeName(want))
	}
}

// wantNoMaze checks that a call failed, with a maze that is zero.
func wantNoMaze(t *testing.T, call string, got impl.Maze, ok bool) {
	t.Helper()
	if ok || got != (impl.Maze{}) {
		t.Errorf("%s is %+v, %v; want none", call, got, ok)
	}
}
