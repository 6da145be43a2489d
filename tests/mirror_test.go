package tests

import (
	"slices"
	"strconv"
	"strings"
	"testing"

	"loop.example/g01276/impl"
)

func TestExampleOfMirrors(t *testing.T) {
	m := readMaze(t, "2x1:ZS")
	b, ok := impl.EntryOf(m, 4)
	if b != (impl.Ball{X: 0, Y: 0, Way: 0}) || !ok {
		t.Errorf("EntryOf 4 is %+v, %v", b, ok)
	}
	n, ok := impl.ExitOf(m, b)
	wantNumber(t, "ExitOf the ball from the end 4", n, ok, 3, true)
	exits, ok := impl.ExitTable(readMaze(t, "1x1:Z"))
	wantList(t, "ExitTable of one mirror", exits, ok, 3, 2, 1, 0)
	for k := range 4 {
		n, ok = impl.BallsUntilSame(readMaze(t, "1x1:Z!"), k)
		wantNumber(t, "BallsUntilSame of one mirror", n, ok, 2, true)
	}
	n, ok = impl.CountTracks(readMaze(t, "2x2:ZSSZ"))
	wantNumber(t, "CountTracks", n, ok, 1, true)
}

func TestLimitOfBallsIsAConstant(t *testing.T) {
	if impl.MaxBalls != 600 {
		t.Error(impl.MaxBalls)
	}
}

func TestIsMaze(t *testing.T) {
	for _, turns := range []bool{false, true} {
		for _, m := range []impl.Maze{
			{Width: 1, Height: 1, Cells: ".", Turns: turns},
			{Width: 1, Height: 1, Cells: "Z", Turns: turns},
			{Width: 1, Height: 1, Cells: "S", Turns: turns},
			{Width: 3, Height: 2, Cells: "Z.SSZ.", Turns: turns},
			{Width: 9, Height: 1, Cells: "ZZZSSS...", Turns: turns},
			{Width: 1, Height: 9, Cells: ".........", Turns: turns},
			{Width: 9, Height: 9, Cells: strings.Repeat("S.Z", 27), Turns: turns},
		} {
			if !impl.IsMaze(m) {
				t.Errorf("%s is no maze", mazeName(m))
			}
		}
	}
	for _, m := range invalidMazes() {
		if impl.IsMaze(m) {
			t.Errorf("%+v is a maze", m)
		}
	}
}

func TestIsBall(t *testing.T) {
	for _, m := range sampleMazes() {
		for _, b := range plainBalls(m) {
			if !impl.IsBall(m, b) {
				t.Errorf("%s is no ball of %s", ballName(b), mazeName(m))
			}
		}
	}
	m := readMaze(t, "3x2:Z.SSZ.")
	for _, b := range invalidBalls() {
		if impl.IsBall(m, b) {
			t.Errorf("%s is a ball of %s", ballName(b), mazeName(m))
		}
	}
	for _, m := range invalidMazes() {
		if impl.IsBall(m, impl.Ball{}) {
			t.Errorf("a ball is in %+v, which is no maze", m)
		}
	}
}

func TestCountMirrors(t *testing.T) {
	for text, want := range map[string][2]int{
		"1x1:.":                                {0, 0},
		"1x1:Z":                                {1, 0},
		"1x1:S!":                               {0, 1},
		"3x2:Z.SSZ.":                           {2, 2},
		"3x2:ZZSZZ.!":                          {4, 1},
		"9x9:" + strings.Repeat("S.S", 27):     {0, 54},
		"9x9:" + strings.Repeat(".", 81) + "!": {0, 0},
		"9x9:" + strings.Repeat("Z", 81):       {81, 0},
	} {
		z, s, ok := impl.CountMirrors(readMaze(t, text))
		if z != want[0] || s != want[1] || !ok {
			t.Errorf("CountMirrors of %s is %d, %d, %v", text, z, s, ok)
		}
	}
}

func TestHitCellTurnsByMirrors(t *testing.T) {
	above, right, below, left := impl.Ball{X: 1, Y: 0, Way: 0}, impl.Ball{X: 2, Y: 1, Way: 1}, impl.Ball{X: 1, Y: 2, Way: 2}, impl.Ball{X: 0, Y: 1, Way: 3}
	for _, c := range []struct {
		before, after string
		next          [4]impl.Ball
	}{
		{"3x3:.........", "3x3:.........", [4]impl.Ball{above, right, below, left}},
		{"3x3:.........!", "3x3:.........!", [4]impl.Ball{above, right, below, left}},
		{"3x3:ZZZZ.ZZZZ!", "3x3:ZZZZ.ZZZZ!", [4]impl.Ball{above, right, below, left}},
		{"3x3:....Z....", "3x3:....Z....", [4]impl.Ball{right, above, left, below}},
		{"3x3:....Z....!", "3x3:....S....!", [4]impl.Ball{right, above, left, below}},
		{"3x3:....S....", "3x3:....S....", [4]impl.Ball{left, below, right, above}},
		{"3x3:ZZZZSZZZZ!", "3x3:ZZZZZZZZZ!", [4]impl.Ball{left, below, right, above}},
	} {
		for way, want := range c.next {
			m, b, ok := impl.HitCell(readMaze(t, c.before), impl.Ball{X: 1, Y: 1, Way: way})
			wantMaze(t, "HitCell of "+c.before, m, ok, readMaze(t, c.after))
			if b != want {
				t.Errorf("HitCell of %s with the way %d leads to %s; want %s", c.before, way, ballName(b), ballName(want))
			}
		}
	}
}

func TestHitCellFailsAtTheEnds(t *testing.T) {
	for _, c := range []struct {
		text string
		ball impl.Ball
		out  bool
	}{
		{"1x1:.", impl.Ball{Way: 0}, true},
		{"1x1:Z!", impl.Ball{Way: 3}, true},
		{"3x2:......", impl.Ball{X: 2, Y: 1, Way: 1}, true},
		{"3x2:......", impl.Ball{X: 2, Y: 1, Way: 2}, true},
		{"3x2:......", impl.Ball{X: 0, Y: 0, Way: 0}, true},
		{"3x2:......", impl.Ball{X: 0, Y: 0, Way: 3}, true},
		{"3x2:......", impl.Ball{X: 0, Y: 0, Way: 1}, false},
		{"3x2:......", impl.Ball{X: 2, Y: 0, Way: 2}, false},
		{"3x2:.....S!", impl.Ball{X: 2, Y: 1, Way: 1}, true},
		{"3x2:.....S!", impl.Ball{X: 2, Y: 1, Way: 0}, false},
		{"3x2:..S...", impl.Ball{X: 2, Y: 0, Way: 1}, false},
		{"3x2:..Z...", impl.Ball{X: 2, Y: 0, Way: 1}, true},
	} {
		m, b, ok := impl.HitCell(readMaze(t, c.text), c.ball)
		if ok == c.out {
			t.Errorf("HitCell of %s and %s is %+v, %+v, %v", c.text, ballName(c.ball), m, b, ok)
		}
		if c.out && (m != impl.Maze{} || b != impl.Ball{}) {
			t.Errorf("HitCell of %s and %s fails with %+v, %+v", c.text, ballName(c.ball), m, b)
		}
	}
}

// wantEntries checks the balls that come in from all ends.
func wantEntries(t *testing.T, text string, want ...impl.Ball) {
	t.Helper()
	m := readMaze(t, text)
	for k, entry := range want {
		if b, ok := impl.EntryOf(m, k); b != entry || !ok {
			t.Errorf("EntryOf %s and %d is %+v, %v; want %+v", text, k, b, ok, entry)
		}
	}
	if b, ok := impl.EntryOf(m, len(want)); b != (impl.Ball{}) || ok {
		t.Errorf("EntryOf %s and %d is %+v, %v; want none", text, len(want), b, ok)
	}
}

func TestEntryOf(t *testing.T) {
	wantEntries(t, "1x1:Z", impl.Ball{Way: 2}, impl.Ball{Way: 3}, impl.Ball{Way: 0}, impl.Ball{Way: 1})
	wantEntries(t, "3x2:Z.SSZ.", impl.Ball{X: 0, Y: 0, Way: 2}, impl.Ball{X: 1, Y: 0, Way: 2}, impl.Ball{X: 2, Y: 0, Way: 2},
		impl.Ball{X: 2, Y: 0, Way: 3}, impl.Ball{X: 2, Y: 1, Way: 3},
		impl.Ball{X: 2, Y: 1, Way: 0}, impl.Ball{X: 1, Y: 1, Way: 0}, impl.Ball{X: 0, Y: 1, Way: 0},
		impl.Ball{X: 0, Y: 1, Way: 1}, impl.Ball{X: 0, Y: 0, Way: 1})
	wantEntries(t, "2x4:........!", impl.Ball{X: 0, Y: 0, Way: 2}, impl.Ball{X: 1, Y: 0, Way: 2},
		impl.Ball{X: 1, Y: 0, Way: 3}, impl.Ball{X: 1, Y: 1, Way: 3}, impl.Ball{X: 1, Y: 2, Way: 3}, impl.Ball{X: 1, Y: 3, Way: 3},
		impl.Ball{X: 1, Y: 3, Way: 0}, impl.Ball{X: 0, Y: 3, Way: 0},
		impl.Ball{X: 0, Y: 3, Way: 1}, impl.Ball{X: 0, Y: 2, Way: 1}, impl.Ball{X: 0, Y: 1, Way: 1}, impl.Ball{X: 0, Y: 0, Way: 1})
}

// wantRoll checks where a ball comes out, the maze then, and its hits: the end -1 tells that it never does.
func wantRoll(t *testing.T, text string, b impl.Ball, exit int, after string, hits int) {
	t.Helper()
	m, what := readMaze(t, text), " of "+text+" and "+ballName(b)
	n, ok := impl.ExitOf(m, b)
	wantNumber(t, "ExitOf"+what, n, ok, max(exit, 0), exit >= 0)
	n, ok = impl.HitsOfBall(m, b)
	wantNumber(t, "HitsOfBall"+what, n, ok, hits, exit >= 0)
	got, ok := impl.MazeAfterBall(m, b)
	if exit >= 0 {
		wantMaze(t, "MazeAfterBall"+what, got, ok, readMaze(t, after))
	} else {
		wantNoMaze(t, "MazeAfterBall"+what, got, ok)
	}
}

func TestBallsGoStraightWithoutMirrors(t *testing.T) {
	for _, text := range []string{"3x2:......", "3x2:......!"} {
		for way, exit := range []int{1, 4, 6, 8} {
			wantRoll(t, text, impl.Ball{X: 1, Y: 1, Way: way}, exit, text, 0)
		}
	}
	for way, exit := range []int{0, 1, 2, 3} {
		wantRoll(t, "1x1:.", impl.Ball{Way: way}, exit, "1x1:.", 0)
	}
}

func TestBallsInOneCell(t *testing.T) {
	for way, exit := range []int{1, 0, 3, 2} {
		wantRoll(t, "1x1:Z", impl.Ball{Way: way}, exit, "1x1:Z", 1)
		wantRoll(t, "1x1:Z!", impl.Ball{Way: way}, exit, "1x1:S!", 1)
	}
	for way, exit := range []int{3, 2, 1, 0} {
		wantRoll(t, "1x1:S", impl.Ball{Way: way}, exit, "1x1:S", 1)
		wantRoll(t, "1x1:S!", impl.Ball{Way: way}, exit, "1x1:Z!", 1)
	}
}

// A mirror that is hit twice counts twice, and turns twice.
func TestBallsHitMirrorsTwice(t *testing.T) {
	b := impl.Ball{X: 1, Y: 1, Way: 3}
	wantRoll(t, "2x2:ZSS.", b, 4, "2x2:ZSS.", 3)
	wantRoll(t, "2x2:ZSS.!", b, 4, "2x2:SZZ.!", 3)
	wantRoll(t, "2x2:ZSSS", b, 4, "2x2:ZSSS", 5)
	wantRoll(t, "2x2:ZSSS!", b, 2, "2x2:SSZS!", 6)
}

func TestBallsOnClosedTracksNeverComeOut(t *testing.T) {
	for _, b := range []impl.Ball{{X: 0, Y: 0, Way: 0}, {X: 1, Y: 0, Way: 1}, {X: 1, Y: 1, Way: 2}, {X: 0, Y: 1, Way: 3}, {X: 0, Y: 0, Way: 3}, {X: 0, Y: 1, Way: 2}, {X: 1, Y: 1, Way: 1}, {X: 1, Y: 0, Way: 0}} {
		wantRoll(t, "2x2:ZSSZ", b, -1, "", 0)
	}
	for exit, b := range []impl.Ball{{X: 0, Y: 0, Way: 1}, {X: 1, Y: 0, Way: 3}, {X: 1, Y: 0, Way: 2}, {X: 1, Y: 1, Way: 0}, {X: 1, Y: 1, Way: 3}, {X: 0, Y: 1, Way: 1}, {X: 0, Y: 1, Way: 0}, {X: 0, Y: 0, Way: 2}} {
		wantRoll(t, "2x2:ZSSZ", b, exit, "2x2:ZSSZ", 1)
	}
	// The track goes through the free cell in the middle twice, with two ways.
	wantRoll(t, "3x3:ZS.S.S.SZ", impl.Ball{X: 1, Y: 1, Way: 2}, -1, "", 0)
	wantRoll(t, "3x3:ZS.S.S.SZ", impl.Ball{X: 1, Y: 1, Way: 1}, -1, "", 0)
	wantRoll(t, "9x9:Z.......S"+strings.Repeat(".", 63)+"S.......Z", impl.Ball{X: 4, Y: 0, Way: 1}, -1, "", 0)
}

// The same balls come back to their cells with their ways when mirrors turn, but the maze is another one then.
func TestBallsComeOutOfMazesThatTurn(t *testing.T) {
	wantRoll(t, "2x2:ZSSZ!", impl.Ball{X: 0, Y: 0, Way: 0}, 7, "2x2:ZZZS!", 5)
	wantRoll(t, "2x2:ZSSZ!", impl.Ball{X: 1, Y: 0, Way: 0}, 2, "2x2:SSZS!", 5)
	for _, b := range plainBalls(readMaze(t, "2x2:ZSSZ!")) {
		if n, ok := impl.ExitOf(readMaze(t, "2x2:ZSSZ!"), b); !ok {
			t.Errorf("ExitOf %s is %d, %v", ballName(b), n, ok)
		}
	}
}

func TestExitTable(t *testing.T) {
	for text, want := range map[string][]int{
		"1x1:.":      {2, 3, 0, 1},
		"1x1:S":      {1, 0, 3, 2},
		"1x1:S!":     {1, 0, 3, 2},
		"3x2:......": {7, 6, 5, 9, 8, 2, 1, 0, 4, 3},
		"3x2:Z.SS.Z": {9, 6, 3, 2, 5, 4, 1, 8, 7, 0},
		"2x1:ZZ":     {5, 4, 3, 2, 1, 0},
		"2x1:ZZ!":    {5, 4, 3, 2, 1, 0},
		"1x2:.Z!":    {4, 5, 3, 2, 0, 1},
		"2x2:ZSSZ":   {7, 2, 1, 4, 3, 6, 5, 0},
		"2x2:ZSSS":   {7, 2, 1, 4, 3, 6, 5, 0},
		"2x2:ZSSS!":  {7, 2, 1, 2, 5, 6, 5, 0},
	} {
		got, ok := impl.ExitTable(readMaze(t, text))
		wantList(t, "ExitTable of "+text, got, ok, want...)
	}
}

func TestCountTracks(t *testing.T) {
	for text, want := range map[string]int{
		"1x1:.":                                 0,
		"1x1:Z":                                 0,
		"2x2:SZZS":                              0,
		"2x2:ZSSS":                              0,
		"3x2:Z.SS.Z":                            1,
		"3x3:Z.S...S.Z":                         1, // balls from ends cross it
		"3x3:ZS.S.S.SZ":                         1, // it crosses itself
		"3x3:ZS.SZS.SZ":                         2, // they share a mirror
		"4x2:ZSZSSZSZ":                          2,
		"4x4:Z..S.ZS..SZ.S..Z":                  2, // one is in the other one
		"4x4:.ZS.Z..SS..Z.SZ.":                  2, // they cross each other
		"9x9:" + strings.Repeat(".", 81):        0,
		"9x9:" + strings.Repeat("Z", 81):        0,
		"9x9:" + strings.Repeat("ZS", 40) + "Z": 32,
		"9x9:" + strings.Repeat("SZ", 40) + "S": 32,
		"9x2:ZSZSZSZSZSZSZSZSZS":                4,
		"9x9:Z.......S" + strings.Repeat(".", 63) + "S.......Z": 1,
	} {
		n, ok := impl.CountTracks(readMaze(t, text))
		wantNumber(t, "CountTracks of "+text, n, ok, want, true)
	}
}

func TestLongestTrack(t *testing.T) {
	for text, want := range map[string]int{
		"1x1:.":                          1,
		"1x1:S":                          1,
		"9x4:" + strings.Repeat(".", 36): 9,
		"4x9:" + strings.Repeat(".", 36): 9,
		"9x9:" + strings.Repeat(".", 81): 9,
		"9x9:" + strings.Repeat("Z", 81): 17,
		"2x2:ZSSZ":                       1,
		"2x2:ZSS.":                       5, // the free cell is entered twice
		"2x2:ZSSS":                       5, // a mirror is hit on both sides
		"3x3:Z.S...S.Z":                  3,
		"1x9:.........":                  9,
	} {
		n, ok := impl.LongestTrack(readMaze(t, text))
		wantNumber(t, "LongestTrack of "+text, n, ok, want, true)
	}
}

func TestTracksAreThoseOfMirrorsThatStay(t *testing.T) {
	for _, text := range []string{"1x1:.!", "1x1:Z!", "2x2:ZSSZ!", "9x9:" + strings.Repeat("ZS", 40) + "Z!"} {
		n, ok := impl.CountTracks(readMaze(t, text))
		wantNumber(t, "CountTracks of "+text, n, ok, 0, false)
		n, ok = impl.LongestTrack(readMaze(t, text))
		wantNumber(t, "LongestTrack of "+text, n, ok, 0, false)
	}
}

func TestBallsUntilSame(t *testing.T) {
	for _, c := range []struct {
		text string
		k    int
		want int
	}{
		{"1x1:.!", 0, 1},
		{"1x1:S!", 3, 2},
		{"2x1:.Z!", 0, 1}, // the ball hits no mirror
		{"2x1:.Z!", 4, 1},
		{"2x1:.Z!", 1, 2},
		{"2x1:.Z!", 5, 2},
		{"2x1:ZZ!", 1, 4},
		{"9x9:" + strings.Repeat(".", 81) + "!", 35, 1},
		{"3x8:SSSZZ.ZZSSSSZ.SZSSZZS.SS!", 3, 600},
		{"3x5:ZZ..ZZZ.SZ.ZZ.Z!", 9, 0}, // it needs 601
		{"1x1:.", 0, 0},
		{"1x1:Z", 0, 0},
		{"2x2:ZSSZ", 3, 0},
	} {
		n, ok := impl.BallsUntilSame(readMaze(t, c.text), c.k)
		wantNumber(t, "BallsUntilSame of "+c.text, n, ok, c.want, c.want > 0)
	}
}

func TestExitsInTurn(t *testing.T) {
	for _, c := range []struct {
		text string
		k    int
		want []int
	}{
		{"1x1:Z!", 0, nil},
		{"1x1:Z", 0, nil},
		{"1x1:Z!", 0, []int{3}},
		{"1x1:Z!", 0, []int{3, 1, 3, 1}},
		{"1x1:Z", 0, []int{3, 3, 3, 3}},
		{"1x1:.!", 1, []int{3, 3, 3}},
		{"2x1:ZS", 4, []int{3, 3}},
		{"2x1:ZZ!", 1, []int{4, 2, 0, 2, 4, 2, 0, 2, 4}},
		{"2x2:ZSSS", 3, []int{4, 4, 4}},
	} {
		got, ok := impl.ExitsInTurn(readMaze(t, c.text), c.k, len(c.want))
		wantList(t, "ExitsInTurn of "+c.text, got, ok, c.want...)
	}
	got, ok := impl.ExitsInTurn(readMaze(t, "1x1:Z!"), 2, impl.MaxBalls)
	wantList(t, "ExitsInTurn of the most balls", got, ok, slices.Repeat([]int{1, 3}, 300)...)
}

func TestTurnMaze(t *testing.T) {
	for text, want := range map[string]string{
		"1x1:.":         "1x1:.",
		"1x1:Z":         "1x1:S",
		"1x1:S!":        "1x1:Z!",
		"3x2:Z.SSZ.":    "2x3:ZSS..Z",
		"3x2:Z.SSZ.!":   "2x3:ZSS..Z!",
		"2x3:ZSS..Z":    "3x2:.ZSS.Z",
		"9x1:.....ZZS.": "1x9:.....SSZ.",
		"1x9:.....ZZS.": "9x1:.ZSS.....",
	} {
		m, ok := impl.TurnMaze(readMaze(t, text))
		wantMaze(t, "TurnMaze of "+text, m, ok, readMaze(t, want))
	}
}

func TestMirrorMaze(t *testing.T) {
	for text, want := range map[string]string{
		"1x1:.":         "1x1:.",
		"1x1:Z":         "1x1:S",
		"1x1:S!":        "1x1:Z!",
		"3x2:Z.SSZ.":    "3x2:Z.S.SZ",
		"3x2:Z.SSZ.!":   "3x2:Z.S.SZ!",
		"2x3:ZSS..Z":    "2x3:ZS.ZS.",
		"9x1:.....ZZS.": "9x1:.ZSS.....",
		"1x9:.....ZZS.": "1x9:.....SSZ.",
	} {
		m, ok := impl.MirrorMaze(readMaze(t, text))
		wantMaze(t, "MirrorMaze of "+text, m, ok, readMaze(t, want))
	}
}

func TestMazeTextAndParseMaze(t *testing.T) {
	for text, want := range map[string]impl.Maze{
		"1x1:.":                            {Width: 1, Height: 1, Cells: "."},
		"1x1:.!":                           {Width: 1, Height: 1, Cells: ".", Turns: true},
		"2x1:ZS":                           {Width: 2, Height: 1, Cells: "ZS"},
		"1x2:ZS!":                          {Width: 1, Height: 2, Cells: "ZS", Turns: true},
		"3x2:Z.SSZ.":                       {Width: 3, Height: 2, Cells: "Z.SSZ."},
		"9x1:.ZS.ZS.ZS!":                   {Width: 9, Height: 1, Cells: ".ZS.ZS.ZS", Turns: true},
		"9x9:" + strings.Repeat("S.Z", 27): {Width: 9, Height: 9, Cells: strings.Repeat("S.Z", 27)},
	} {
		m, ok := impl.ParseMaze(text)
		wantMaze(t, "ParseMaze of "+text, m, ok, want)
		if got, ok := impl.MazeText(want); got != text || !ok {
			t.Errorf("MazeText of %+v is %q, %v; want %q", want, got, ok, text)
		}
	}
}

func TestParseMazeFails(t *testing.T) {
	for _, s := range []string{
		"", "!", ":", "1", "1x", "1x1", "1x1:", "1x1:!", "1x1!", "x1:.", "1x:.", "1:.", "1x1.", "1x1.!",
		"1x1:.!!", "1x1:!.", "!1x1:.", "1x1:.! ", "1x1:. !", "1x1:. ", " 1x1:.", "1x1: .", "1x1:.\n", "1x1:.\x00", "1x1:.?",
		"01x1:.", "1x01:.", "+1x1:.", "-1x1:.", "1x-1:.", "1X1:.", "1*1:.", "1x1;.", "1x1/.", "1 x1:.", "1x1::.",
		"1x1:..", "1x1:ZS", "2x1:Z", "1x2:Z", "2x2:ZSS", "2x2:ZSSZS", "3x2:Z.S/SZ.", "3x2:Z.S,SZ.", "2x2:ZS!SZ", "2x2:ZS!S",
		"0x1:", "1x0:", "0x0:", "0x1:.", "1x0:.", "0x1:!", "0x0:!", "10x1:..........", "1x10:..........", ":x1:..........", "1x::..........",
		"/x1:.", "1x/:.", "1x1:z", "1x1:s", "1x1:L", "1x1:0", "1x1:_", "1x1:/", "1x1:\\", "1x1:\xff", "1x2:é", "2x1:Sé", "\xffx1:.",
		"9x9:" + strings.Repeat(".", 80), "9x9:" + strings.Repeat(".", 82), "9x9:" + strings.Repeat(".", 82) + "!",
		strings.Repeat("!", 10000), strings.Repeat("1x1:.", 2), strings.Repeat("1x1:.", 10000), "1x1:" + strings.Repeat(".", 100000),
	} {
		m, ok := impl.ParseMaze(s)
		wantNoMaze(t, "ParseMaze of "+strconv.Quote(s[:min(len(s), 100)]), m, ok)
	}
}

func TestResultsOfMazesAreNewlyAllocated(t *testing.T) {
	m := readMaze(t, "3x2:Z.SSZ.!")
	lists := map[string]func() ([]int, bool){
		"ExitTable":   func() ([]int, bool) { return impl.ExitTable(m) },
		"ExitsInTurn": func() ([]int, bool) { return impl.ExitsInTurn(m, 4, 7) },
	}
	for name, list := range lists {
		first, _ := list()
		want := slices.Clone(first)
		for i := range first {
			first[i] = -1
		}
		got, ok := list()
		wantList(t, name, got, ok, want...)
	}
}
