package tests

import (
	"math"
	"strconv"
	"strings"
	"testing"

	"loop.example/g01276/impl"
)

// These are tests of the promise that every function accepts all arguments, for mirrors: invalid ones give zero values.

func invalidMazes() []impl.Maze {
	mazes := []impl.Maze{{}, {Turns: true}}
	change := func(f func(m *impl.Maze)) {
		for _, turns := range []bool{false, true} {
			m := impl.Maze{Width: 3, Height: 2, Cells: "Z.SSZ.", Turns: turns}
			f(&m)
			mazes = append(mazes, m)
		}
	}
	for _, cells := range []string{
		"", "Z.SSZ", "Z.SSZ..", "z.SSZ.", "Z.sSZ.", "Z.SSZ!", "!.SSZ.", "Z.SSZ ", "Z/SSZ.", "Z.S/SZ.", "Z-SSZ.", "ZNSSZ.", "LRSSZ.", "000000",
		"Z.SSZ\x00", "Z.SSZ\xff", "\xff.SSZ.", "ZéSSZ.", "ZéSZ.", "Z.\nSZ.", "Z.?SZ.", strings.Repeat(".", 100000),
	} {
		change(func(m *impl.Maze) { m.Cells = cells })
	}
	for _, n := range []int{0, -1, -3, 1, 2, 4, 6, 10, 1 << 32, math.MaxInt, math.MinInt} {
		change(func(m *impl.Maze) { m.Width = n })
	}
	for _, n := range []int{0, -1, -2, 1, 3, 6, 10, 1 << 32, math.MaxInt, math.MinInt} {
		change(func(m *impl.Maze) { m.Height = n })
	}
	return append(mazes,
		impl.Maze{Width: 10, Height: 1, Cells: ".........."},
		impl.Maze{Width: 1, Height: 10, Cells: "..........", Turns: true},
		impl.Maze{Width: -1, Height: -1, Cells: "."},
		impl.Maze{Width: -3, Height: -2, Cells: "Z.SSZ.", Turns: true},
		impl.Maze{Width: 1 << 32, Height: 1 << 32},
		impl.Maze{Width: 9, Height: 9, Cells: strings.Repeat(".", 80)},
		impl.Maze{Width: 9, Height: 9, Cells: strings.Repeat(".", 80) + "x"},
	)
}

// invalidBalls returns what is no ball of a maze of the width 3 and the height 2.
func invalidBalls() []impl.Ball {
	var balls []impl.Ball
	for _, n := range []int{-1, 3, 6, 1 << 32, math.MaxInt, math.MinInt} {
		balls = append(balls, impl.Ball{X: n, Y: 1, Way: 3}, impl.Ball{X: n})
	}
	for _, n := range []int{-1, 2, 3, 1 << 32, math.MaxInt, math.MinInt} {
		balls = append(balls, impl.Ball{X: 2, Y: n, Way: 3}, impl.Ball{Y: n})
	}
	for _, n := range []int{-1, 4, 1 << 32, math.MaxInt, math.MinInt} {
		balls = append(balls, impl.Ball{X: 2, Y: 1, Way: n}, impl.Ball{Way: n})
	}
	return append(balls, impl.Ball{X: -1, Y: 1, Way: 1}, impl.Ball{X: 3, Y: -1, Way: 1}, impl.Ball{X: math.MinInt, Y: math.MaxInt, Way: 7})
}

// mazeResults calls each function of a maze alone and tells, by name, whether all is zero.
func mazeResults(m impl.Maze) map[string]bool {
	zero := map[string]bool{}
	z, s, ok := impl.CountMirrors(m)
	zero["CountMirrors"] = z == 0 && s == 0 && !ok
	exits, ok := impl.ExitTable(m)
	zero["ExitTable"] = len(exits) == 0 && !ok
	n, ok := impl.CountTracks(m)
	zero["CountTracks"] = n == 0 && !ok
	n, ok = impl.LongestTrack(m)
	zero["LongestTrack"] = n == 0 && !ok
	v, ok := impl.TurnMaze(m)
	zero["TurnMaze"] = v == impl.Maze{} && !ok
	v, ok = impl.MirrorMaze(m)
	zero["MirrorMaze"] = v == impl.Maze{} && !ok
	text, ok := impl.MazeText(m)
	zero["MazeText"] = text == "" && !ok
	return zero
}

// ballResults does so for the functions of a maze and of a ball.
func ballResults(m impl.Maze, b impl.Ball) map[string]bool {
	zero := map[string]bool{}
	v, next, ok := impl.HitCell(m, b)
	zero["HitCell"] = v == impl.Maze{} && next == impl.Ball{} && !ok
	n, ok := impl.ExitOf(m, b)
	zero["ExitOf"] = n == 0 && !ok
	n, ok = impl.HitsOfBall(m, b)
	zero["HitsOfBall"] = n == 0 && !ok
	v, ok = impl.MazeAfterBall(m, b)
	zero["MazeAfterBall"] = v == impl.Maze{} && !ok
	return zero
}

// endResults does so for the functions of a maze, of an end and of a number of balls.
func endResults(m impl.Maze, k, balls int) map[string]bool {
	zero := map[string]bool{}
	b, ok := impl.EntryOf(m, k)
	zero["EntryOf"] = b == impl.Ball{} && !ok
	n, ok := impl.BallsUntilSame(m, k)
	zero["BallsUntilSame"] = n == 0 && !ok
	exits, ok := impl.ExitsInTurn(m, k, balls)
	zero["ExitsInTurn"] = len(exits) == 0 && !ok
	return zero
}

func TestInvalidMazesGiveZeroValues(t *testing.T) {
	for _, m := range invalidMazes() {
		what := "an invalid maze of the cells " + strconv.Quote(m.Cells[:min(len(m.Cells), 100)])
		wantZero(t, what, mazeResults(m))
		for _, b := range []impl.Ball{{}, {X: 2, Y: 1, Way: 3}, {X: -1}, {X: math.MaxInt, Y: math.MinInt, Way: 4}} {
			wantZero(t, what, ballResults(m, b))
		}
		for _, k := range []int{0, 5, -1, math.MaxInt, math.MinInt} {
			for _, balls := range []int{0, 1, impl.MaxBalls, -1, math.MaxInt} {
				wantZero(t, what, endResults(m, k, balls))
			}
		}
	}
}

func TestInvalidBallsGiveZeroValues(t *testing.T) {
	for _, m := range []impl.Maze{{Width: 3, Height: 2, Cells: "Z.SSZ."}, {Width: 3, Height: 2, Cells: "......", Turns: true}} {
		for _, b := range invalidBalls() {
			wantZero(t, "the ball "+ballName(b), ballResults(m, b))
		}
	}
}

func TestInvalidEndsGiveZeroValues(t *testing.T) {
	for _, m := range sampleMazes() {
		ends := 2 * (m.Width + m.Height)
		for _, k := range []int{-1, -ends, ends, ends + 1, 1 << 32, math.MaxInt, math.MinInt} {
			wantZero(t, "the end "+strconv.Itoa(k)+" of "+mazeName(m), endResults(m, k, 1))
			wantZero(t, "the end "+strconv.Itoa(k)+" of "+mazeName(m), endResults(m, k, 0))
		}
	}
}

func TestInvalidNumbersOfBallsGiveZeroValues(t *testing.T) {
	for _, m := range sampleMazes() {
		for _, balls := range []int{-1, impl.MaxBalls + 1, 1 << 32, math.MaxInt, math.MinInt} {
			wantZero(t, strconv.Itoa(balls)+" balls", endResults(m, 0, balls), "ExitsInTurn")
		}
	}
}

func TestFunctionsOfOneKindOfMirrors(t *testing.T) {
	for _, m := range sampleMazes() {
		if m.Turns {
			wantZero(t, "mirrors that turn", mazeResults(m), "CountTracks", "LongestTrack")
		} else {
			wantZero(t, "mirrors that stay", endResults(m, 0, 1), "BallsUntilSame")
		}
	}
}

func TestLimitsOfMazesAreMetExactly(t *testing.T) {
	for _, size := range [][2]int{{9, 9}, {9, 1}, {1, 9}} {
		m := impl.Maze{Width: size[0], Height: size[1], Cells: strings.Repeat(".", size[0]*size[1])}
		for name, zero := range mazeResults(m) {
			if zero {
				t.Errorf("%s of %s is zero", name, mazeName(m))
			}
		}
		last := impl.Ball{X: size[0] - 1, Y: size[1] - 1, Way: 3}
		for name, zero := range ballResults(m, last) {
			if zero && (name != "HitCell" || size[0] > 1) {
				t.Errorf("%s of %s and the last ball is zero", name, mazeName(m))
			}
		}
		m.Turns = true
		for name, zero := range endResults(m, 2*(size[0]+size[1])-1, impl.MaxBalls) {
			if zero {
				t.Errorf("%s of %s and the last end is zero", name, mazeName(m))
			}
		}
	}
}

func TestArgumentsOfMirrorsAreNotModified(t *testing.T) {
	for _, m := range sampleMazes() {
		before, cells := m, strings.Clone(m.Cells)
		mazeResults(m)
		for _, b := range plainBalls(m) {
			ballResults(m, b)
		}
		endResults(m, 1, 20)
		if m != before || m.Cells != cells {
			t.Errorf("%s has become %s", mazeName(before), mazeName(m))
		}
	}
}

// Nothing is kept between calls: mirrors that a ball has turned are as they were for the next one.
func TestMazesAreTheSameInEachCall(t *testing.T) {
	n := &numbers{last: 41}
	m := n.someMaze(5, 4, 2, true)
	exits, _ := impl.ExitTable(m)
	turn, _ := impl.ExitsInTurn(m, 3, 50)
	for range 5 {
		got, ok := impl.ExitTable(m)
		wantList(t, "ExitTable again", got, ok, exits...)
		got, ok = impl.ExitsInTurn(m, 3, 50)
		wantList(t, "ExitsInTurn again", got, ok, turn...)
		for k, exit := range exits {
			end, ok := impl.ExitOf(m, plainEntry(m, k))
			wantNumber(t, "ExitOf again", end, ok, exit, true)
		}
	}
}
