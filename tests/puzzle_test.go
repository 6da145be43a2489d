package tests

import (
	"slices"
	"strconv"
	"strings"
	"testing"

	"loop.example/g01276/impl"
)

func TestExampleOfPuzzles(t *testing.T) {
	p, ok := impl.ParsePuzzle("LR:2x1:2.1.1,4.1.0")
	wantPuzzle(t, "ParsePuzzle", p, ok, impl.Puzzle{Rule: "LR", Width: 2, Height: 1, Clues: []impl.Clue{{Kind: 2, A: 1, B: 1}, {Kind: 4, A: 1, B: 0}}})
	wantSolutions(t, p, "10")
	left, ok := impl.LeftByClues(p)
	wantList(t, "LeftByClues", left, ok, 4, 2, 1)
	first, ok := impl.DropClue(p, 1)
	wantPuzzle(t, "DropClue", first, ok, puzzleOf("LR:2x1:2.1.1"))
	sure, ok := impl.SureCells(first)
	wantText(t, "SureCells", sure, ok, "1?", true)
	n, ok := impl.CountBoards("LR", 3, 2)
	wantNumber(t, "CountBoards", n, ok, 64, true)
}

func TestLimitsOfPuzzlesAreConstants(t *testing.T) {
	if impl.MaxBoards != 300 || impl.MaxClues != 6 {
		t.Error(impl.MaxBoards, impl.MaxClues)
	}
}

func TestIsClue(t *testing.T) {
	for _, c := range []struct {
		colours, cells int
		clue           impl.Clue
		want           bool
	}{
		{1, 1, impl.Clue{Kind: 0, A: 0, B: 0}, true}, {1, 1, impl.Clue{Kind: 0, A: 0, B: 1}, false}, {1, 1, impl.Clue{Kind: 0, A: 1, B: 0}, false},
		{6, 3, impl.Clue{Kind: 0, A: 2, B: 5}, true}, {6, 3, impl.Clue{Kind: 0, A: 2, B: 6}, false}, {6, 3, impl.Clue{Kind: 0, A: 3, B: 5}, false}, {6, 3, impl.Clue{Kind: 0, A: -1, B: 5}, false}, {6, 3, impl.Clue{Kind: 0, A: 2, B: -1}, false},
		{2, 8, impl.Clue{Kind: 1, A: 0, B: 0}, true}, {2, 8, impl.Clue{Kind: 1, A: 50, B: 7}, true}, {2, 8, impl.Clue{Kind: 1, A: 51, B: 7}, false}, {2, 8, impl.Clue{Kind: 1, A: 50, B: 8}, false}, {2, 8, impl.Clue{Kind: 1, A: -1, B: 7}, false}, {2, 8, impl.Clue{Kind: 1, A: 50, B: -1}, false},
		{2, 8, impl.Clue{Kind: 2, A: 0, B: 0}, true}, {2, 8, impl.Clue{Kind: 2, A: 50, B: 3}, true}, {2, 8, impl.Clue{Kind: 2, A: 51, B: 3}, false}, {2, 8, impl.Clue{Kind: 2, A: 50, B: 4}, false}, {2, 8, impl.Clue{Kind: 2, A: -1, B: 3}, false}, {2, 8, impl.Clue{Kind: 2, A: 50, B: -1}, false},
		{1, 9, impl.Clue{Kind: 3, A: 0, B: 0}, true}, {1, 9, impl.Clue{Kind: 3, A: 50, B: 9}, true}, {1, 9, impl.Clue{Kind: 3, A: 51, B: 9}, false}, {1, 9, impl.Clue{Kind: 3, A: 50, B: 10}, false}, {1, 9, impl.Clue{Kind: 3, A: -1, B: 9}, false}, {1, 9, impl.Clue{Kind: 3, A: 50, B: -1}, false},
		{2, 2, impl.Clue{Kind: 4, A: 0, B: 0}, true}, {2, 2, impl.Clue{Kind: 4, A: 100, B: 0}, true}, {2, 2, impl.Clue{Kind: 4, A: 101, B: 0}, false}, {2, 2, impl.Clue{Kind: 4, A: -1, B: 0}, false}, {2, 2, impl.Clue{Kind: 4, A: 1, B: 1}, false}, {2, 2, impl.Clue{Kind: 4, A: 1, B: -1}, false},
		{2, 2, impl.Clue{Kind: -1, A: 0, B: 0}, false}, {2, 2, impl.Clue{Kind: 5, A: 0, B: 0}, false}, {2, 2, impl.Clue{Kind: 5, A: -1, B: -1}, false},
	} {
		if got := impl.IsClue("LRNULR"[:c.colours], c.cells, c.clue); got != c.want {
			t.Errorf("IsClue of %d colours, %d cells and %+v is %v", c.colours, c.cells, c.clue, got)
		}
	}
}

// For each number of colours and of cells just the told clues are some, also where there are too many boards for a hidden world.
func TestAllCluesOfAllColoursAndCells(t *testing.T) {
	n := &numbers{last: 97}
	for colours := 1; colours <= 6; colours++ {
		rule := n.someRule(colours)
		for cells := 1; cells <= 9; cells++ {
			want := plainClues(colours, cells)
			for kind := -1; kind <= 6; kind++ {
				for a := -2; a <= 102; a++ {
					for b := -2; b <= 11; b++ {
						c := impl.Clue{Kind: kind, A: a, B: b}
						if got := impl.IsClue(rule, cells, c); got != want[c] {
							t.Fatalf("IsClue of %s, %d and %+v is %v", rule, cells, c, got)
						}
					}
				}
			}
		}
	}
}

func TestIsPuzzle(t *testing.T) {
	for _, p := range samplePuzzles(futures{}) {
		if !impl.IsPuzzle(p) {
			t.Errorf("%s is no puzzle", puzzleName(p))
		}
	}
	for _, text := range []string{"L:1x1:", "LR:8x1:", "LRN:1x5:", "LRNU:2x2:", "LRNUL:3x1:", "LRNULR:1x3:0.2.5", "N:3x3:0.8.0,1.50.8,2.50.3,3.50.9,4.100.0,4.0.0"} {
		if !impl.IsPuzzle(puzzleOf(text)) {
			t.Errorf("%s is no puzzle", text)
		}
	}
	for _, p := range invalidPuzzles() {
		if impl.IsPuzzle(p) {
			t.Errorf("%s is a puzzle", puzzleName(p))
		}
	}
}

// There are 256 boards of 2 colours and 8 cells, and of 4 and 4: no number of boards is between this and MaxBoards, and the next one is 512.
func TestCountBoards(t *testing.T) {
	n := &numbers{last: 101}
	for colours := 1; colours <= 7; colours++ {
		for width := -1; width <= 11; width++ {
			for height := -1; height <= 11; height++ {
				s := shape{n.someRule(colours), width, height}
				what := "CountBoards of " + s.rule + ", " + strconv.Itoa(width) + " and " + strconv.Itoa(height)
				want, fine := 0, false
				if colours <= 6 && within(width, 1, 9) && within(height, 1, 9) {
					want, fine = s.boards()
				}
				got, ok := impl.CountBoards(s.rule, width, height)
				wantNumber(t, what, got, ok, want, fine)
			}
		}
	}
	for _, c := range []struct {
		rule          string
		width, height int
		want          int
		fine          bool
	}{
		{"U", 1, 1, 1, true}, {"U", 9, 1, 1, true}, {"U", 3, 3, 1, true}, {"U", 1, 9, 1, true}, {"U", 5, 2, 0, false}, {"U", 2, 5, 0, false}, {"U", 9, 9, 0, false}, {"U", 10, 1, 0, false}, {"U", 4, 3, 0, false},
		{"LR", 1, 1, 2, true}, {"LR", 1, 7, 128, true}, {"LR", 8, 1, 256, true}, {"LR", 2, 4, 256, true}, {"LR", 9, 1, 0, false}, {"LR", 3, 3, 0, false},
		{"LRN", 5, 1, 243, true}, {"LRN", 3, 2, 0, false}, {"LRNU", 2, 2, 256, true}, {"LRNU", 1, 5, 0, false}, {"RRRRR", 3, 1, 125, true}, {"RRRRR", 4, 1, 0, false},
		{"LLLLLL", 1, 3, 216, true}, {"LLLLLL", 2, 2, 0, false}, {"LLLLLL", 3, 3, 0, false},
	} {
		got, ok := impl.CountBoards(c.rule, c.width, c.height)
		wantNumber(t, "CountBoards of "+c.rule+", "+strconv.Itoa(c.width)+" and "+strconv.Itoa(c.height), got, ok, c.want, c.fine)
	}
}

// within reports whether n is in least..greatest.
func within(n, least, greatest int) bool { return n >= least && n <= greatest }

// clueOf returns the clue with a text that is right.
func clueOf(text string) impl.Clue { return puzzleOf("L:1x1:" + text).Clues[0] }

// The boards of two cells of LR by hand: each clue, and the Cells that fit it.
func TestDoesFit(t *testing.T) {
	for text, want := range map[string]string{
		"0.0.0": "00 01", "0.0.1": "10 11", "0.1.0": "00 10", "0.1.1": "01 11",
		"1.0.0": "00 01 10 11", "1.0.1": "", "1.1.0": "", "1.1.1": "00 01 10 11", "1.2.1": "00 01 10 11", "1.2.0": "", "1.3.0": "00 01 10 11", "1.3.1": "",
		"2.0.0": "00 01 10 11", "2.0.1": "", "2.1.1": "10 11", "2.1.3": "00 01", "2.1.0": "", "2.2.0": "01 10", "2.2.2": "00 11", "2.3.3": "00 01", "2.3.1": "10 11",
		"3.0.0": "11", "3.0.1": "01 10", "3.0.2": "00", "3.1.0": "01", "3.1.1": "00 11", "3.1.2": "10", "3.2.0": "00", "3.2.1": "01 10", "3.2.2": "11", "3.3.0": "01", "3.3.1": "00 11", "3.3.2": "10",
		"4.0.0": "00", "4.1.0": "01 10", "4.2.0": "11", "4.3.0": "", "4.100.0": "",
	} {
		for _, cells := range []string{"00", "01", "10", "11"} {
			got, ok := impl.DoesFit(clueOf(text), hiddenOf("LR", 2, 1, cells))
			wantTruth(t, "DoesFit of "+text+" and "+cells, got, ok, slices.Contains(strings.Fields(want), cells))
		}
	}
}

// The ant of one cell stays in it, and turns each time.
func TestDoesFitOfOneCell(t *testing.T) {
	for text, want := range map[string]string{
		"0.0.0": "0", "0.0.1": "1", "1.0.0": "0 1", "1.50.0": "0 1", "1.7.0": "0 1", "2.1.3": "0", "2.1.1": "1", "2.2.0": "0 1", "2.49.3": "0", "2.49.1": "1", "2.50.0": "0 1", "2.50.2": "",
		"3.0.1": "0", "3.0.0": "1", "3.1.0": "0", "3.1.1": "1", "3.50.1": "0", "3.50.0": "1", "4.0.0": "0", "4.1.0": "1", "4.2.0": "", "4.100.0": "",
	} {
		for _, cells := range []string{"0", "1"} {
			got, ok := impl.DoesFit(clueOf(text), hiddenOf("LR", 1, 1, cells))
			wantTruth(t, "DoesFit of "+text+" and "+cells, got, ok, slices.Contains(strings.Fields(want), cells))
		}
	}
	for text, want := range map[string]bool{"0.0.0": true, "1.50.0": true, "2.49.2": true, "2.50.0": true, "2.50.2": false, "3.50.1": true, "3.50.0": false, "4.0.0": true, "4.1.0": false} {
		got, ok := impl.DoesFit(clueOf(text), hiddenOf("U", 1, 1, "0"))
		wantTruth(t, "DoesFit of U and "+text, got, ok, want)
	}
}

// A cell is told row by row: one below another one is by the width farther.
func TestCluesOfSixCells(t *testing.T) {
	w := hiddenOf("UR", 2, 3, "000001")
	for _, text := range strings.Fields("0.5.1 0.0.0 0.4.0 3.0.5 1.1.2 2.1.2 3.1.4 1.2.0 2.2.0 3.2.3 1.3.1 2.3.1 3.3.4 1.4.0 2.4.3 3.4.3 1.5.1 2.5.1 3.5.2 1.6.3 2.6.2 3.6.3 1.7.1 2.7.0 3.7.2") {
		c := clueOf(text)
		for other := range plainClues(2, 6) {
			if other.Kind == c.Kind && other.A == c.A {
				got, ok := impl.DoesFit(other, w)
				wantTruth(t, "DoesFit of "+text+" with "+strconv.Itoa(other.B), got, ok, other == c)
			}
		}
	}
	for sum := range 101 {
		got, ok := impl.DoesFit(impl.Clue{Kind: 4, A: sum}, w)
		wantTruth(t, "DoesFit of the sum "+strconv.Itoa(sum), got, ok, sum == 1)
	}
}

func TestSolutions(t *testing.T) {
	for text, want := range map[string]string{
		"LR:2x1:": "00 01 10 11", "LR:2x1:2.1.1": "10 11", "LR:2x1:4.1.0": "01 10", "LR:2x1:2.1.1,4.1.0": "10", "LR:2x1:2.1.1,4.3.0": "", "LR:2x1:0.0.0,0.0.1": "", "LR:2x1:1.1.1,1.2.1,1.3.0,2.0.0,3.3.1,3.2.0": "00",
		"LR:2x1:3.1.1": "00 11", "LR:2x1:2.0.0,2.0.0,2.0.0,2.0.0,2.0.0,2.0.0": "00 01 10 11", "LR:2x1:2.0.0,2.0.0,2.0.0,2.0.0,2.0.0,2.0.1": "",
		"U:1x1:": "0", "U:1x1:2.49.2": "0", "U:1x1:2.50.2": "", "LRNULR:1x1:": "0 1 2 3 4 5", "LRNULR:1x1:2.1.0": "2", "LRNULR:1x1:2.1.3": "0 4", "LRNULR:1x1:2.1.3,3.1.0": "0 4", "LRNULR:1x1:3.1.1": "5", "N:9x1:": "000000000", "N:3x3:3.1.9": "000000000", "N:3x3:3.1.0": "",
		"LRN:1x2:4.2.0": "02 11 20", "LRN:2x1:4.4.0": "22", "LRN:2x1:4.5.0": "", "LRN:2x1:0.1.2": "02 12 22",
	} {
		wantSolutions(t, puzzleOf(text), strings.Fields(want)...)
	}
}

func TestSureCells(t *testing.T) {
	for text, want := range map[string]string{
		"LR:2x1:": "??", "LR:2x1:2.1.1": "1?", "LR:2x1:0.1.0": "?0", "LR:2x1:4.1.0": "??", "LR:2x1:4.0.0": "00", "U:3x3:": "000000000", "LR:4x2:0.3.1,0.6.0": "???1??0?", "LRNU:2x2:0.0.3,0.3.2,0.1.0": "30?2",
		"LRN:1x2:4.2.0": "??", "LRNULR:1x1:2.1.0": "2", "LRNULR:1x1:2.1.3": "?", "LRN:2x1:0.1.2,4.3.0": "12",
	} {
		got, ok := impl.SureCells(puzzleOf(text))
		wantText(t, "SureCells of "+text, got, ok, want, true)
	}
	for _, text := range []string{"LR:2x1:4.3.0", "U:1x1:2.50.2", "LR:8x1:0.7.0,0.7.1"} {
		got, ok := impl.SureCells(puzzleOf(text))
		wantText(t, "SureCells of "+text, got, ok, "", false)
	}
}

func TestNeedlessCluesLeftByCluesAndBestClue(t *testing.T) {
	for _, c := range []struct {
		text           string
		needless, left []int
		best           int
	}{
		{"LR:2x1:2.1.1", nil, []int{4, 2}, 0},
		{"LR:2x1:1.1.1", []int{0}, []int{4, 4}, 0},
		{"LR:2x1:2.1.1,4.1.0", nil, []int{4, 2, 1}, 0},
		{"LR:2x1:2.1.1,4.1.0,3.1.2", []int{0, 1, 2}, []int{4, 2, 1, 1}, 2}, // each two of them suffice
		{"LR:2x1:3.1.2,2.1.1,4.1.0", []int{0, 1, 2}, []int{4, 1, 1, 1}, 0},
		{"LR:2x1:2.1.1,2.1.1", []int{0, 1}, []int{4, 2, 2}, 0},
		{"LR:2x1:2.1.1,1.0.0,2.1.1,0.0.1", []int{0, 1, 2, 3}, []int{4, 2, 2, 2, 2}, 0},
		{"LR:2x1:2.1.1,1.0.0,4.1.0,1.0.0", []int{1, 3}, []int{4, 2, 2, 1, 1}, 0},
		{"LR:2x1:1.1.0,2.1.1", []int{1}, []int{4, 0, 0}, 0}, // there is no solution without the second one either
		{"LR:2x1:1.1.1,2.1.1,4.3.0", []int{0, 1}, []int{4, 4, 2, 0}, 2},
		{"LR:2x1:4.3.0,4.3.0", []int{0, 1}, []int{4, 0, 0}, 0},
		{"LR:2x1:0.0.0,0.0.1", nil, []int{4, 2, 0}, 0}, // no solution, but some without either
		{"LR:2x1:1.0.0,3.1.1,2.1.1,3.1.2,3.0.2,4.3.0", []int{0, 1, 2, 3, 4, 5}, []int{4, 4, 2, 1, 0, 0, 0}, 5},
		{"LR:2x1:1.0.0,3.1.1,3.1.2,3.0.2", []int{0, 1, 3}, []int{4, 4, 2, 0, 0}, 2},
		{"U:1x1:2.0.0,2.1.2,1.5.0", []int{0, 1, 2}, []int{1, 1, 1, 1}, 0},
		{"U:1x1:2.0.0,2.1.0,1.5.0", []int{0, 2}, []int{1, 1, 0, 0}, 1},
		{"LRN:1x2:4.2.0,0.1.2,0.0.0", []int{0, 1, 2}, []int{9, 3, 1, 1}, 0},
		{"LRN:1x2:0.1.2,4.2.0", nil, []int{9, 3, 1}, 0},
		{"LRN:1x2:0.1.2,4.3.0", nil, []int{9, 3, 1}, 1},
	} {
		p := puzzleOf(c.text)
		needless, ok := impl.NeedlessClues(p)
		wantList(t, "NeedlessClues of "+c.text, needless, ok, c.needless...)
		left, ok := impl.LeftByClues(p)
		wantList(t, "LeftByClues of "+c.text, left, ok, c.left...)
		best, ok := impl.BestClue(p)
		wantNumber(t, "BestClue of "+c.text, best, ok, c.best, true)
	}
}

func TestPuzzlesWithoutClues(t *testing.T) {
	for text, boards := range map[string]int{"U:1x1:": 1, "LR:1x1:": 2, "LR:2x1:": 4, "LR:2x4:": 256, "LRNU:2x2:": 256, "N:3x3:": 1, "LRNULR:3x1:": 216} {
		p := puzzleOf(text)
		needless, ok := impl.NeedlessClues(p)
		wantList(t, "NeedlessClues of "+text, needless, ok)
		left, ok := impl.LeftByClues(p)
		wantList(t, "LeftByClues of "+text, left, ok, boards)
		best, ok := impl.BestClue(p)
		wantNumber(t, "BestClue of "+text, best, ok, 0, false)
		n, ok := impl.CountSolutions(p)
		wantNumber(t, "CountSolutions of "+text, n, ok, boards, true)
		harder, ok := impl.HarderPuzzle(p)
		if boards == 1 {
			wantPuzzle(t, "HarderPuzzle of "+text, harder, ok, p)
		} else {
			wantNoPuzzle(t, "HarderPuzzle of "+text, harder, ok)
		}
		dropped, ok := impl.DropClue(p, 0)
		wantNoPuzzle(t, "DropClue of "+text, dropped, ok)
		again, ok := impl.PuzzleText(p)
		wantText(t, "PuzzleText", again, ok, text, true)
	}
}

func TestDropClue(t *testing.T) {
	p := puzzleOf("LR:2x1:0.1.1,1.50.1,2.7.3,3.8.2,4.100.0,0.0.0")
	for k, want := range []string{
		"1.50.1,2.7.3,3.8.2,4.100.0,0.0.0", "0.1.1,2.7.3,3.8.2,4.100.0,0.0.0", "0.1.1,1.50.1,3.8.2,4.100.0,0.0.0", "0.1.1,1.50.1,2.7.3,4.100.0,0.0.0", "0.1.1,1.50.1,2.7.3,3.8.2,0.0.0", "0.1.1,1.50.1,2.7.3,3.8.2,4.100.0",
	} {
		got, ok := impl.DropClue(p, k)
		wantPuzzle(t, "DropClue "+strconv.Itoa(k), got, ok, puzzleOf("LR:2x1:"+want))
	}
	got, ok := impl.DropClue(puzzleOf("U:1x1:2.50.2"), 0)
	wantPuzzle(t, "DropClue of the only one", got, ok, puzzleOf("U:1x1:"))
	twice, ok := impl.DropClue(puzzleOf("LR:1x2:4.1.0,4.1.0,0.0.1"), 0)
	wantPuzzle(t, "DropClue of one that is there twice", twice, ok, puzzleOf("LR:1x2:4.1.0,0.0.1"))
}

func TestAddClue(t *testing.T) {
	p := puzzleOf("LR:2x1:")
	for k, text := range []string{"0.1.1", "1.50.1", "2.7.3", "3.8.2", "4.100.0", "0.1.1"} {
		want := impl.Puzzle{Rule: "LR", Width: 2, Height: 1, Clues: append(slices.Clone(p.Clues), clueOf(text))}
		got, ok := impl.AddClue(p, clueOf(text))
		wantPuzzle(t, "AddClue "+text+" behind "+strconv.Itoa(k), got, ok, want)
		p = got
	}
	got, ok := impl.AddClue(p, clueOf("0.1.1"))
	wantNoPuzzle(t, "AddClue behind 6", got, ok)
}

func TestHarderPuzzle(t *testing.T) {
	for text, want := range map[string]string{
		"LR:2x1:2.1.1,4.1.0": "LR:2x1:2.1.1,4.1.0", "LR:2x1:2.1.1,4.1.0,3.1.2": "LR:2x1:3.1.2", "LR:2x1:3.1.2,2.1.1,4.1.0": "LR:2x1:2.1.1,4.1.0", "LR:2x1:2.1.1,3.1.2,4.1.0": "LR:2x1:3.1.2",
		"LR:2x1:1.0.0,2.1.1,1.0.0,4.1.0,1.0.0,2.0.0": "LR:2x1:2.1.1,4.1.0", "LR:2x1:3.1.2,3.1.2,3.1.2,3.1.2,3.1.2,3.1.2": "LR:2x1:3.1.2", "LR:2x1:2.1.1,4.1.0,2.1.1": "LR:2x1:4.1.0,2.1.1",
		"U:1x1:": "U:1x1:", "U:1x1:2.49.2": "U:1x1:", "N:3x3:0.8.0,1.50.3,2.50.0,3.50.9,4.0.0,3.0.9": "N:3x3:", "LRN:1x2:4.2.0,0.1.2,0.0.0": "LRN:1x2:0.1.2,0.0.0",
	} {
		got, ok := impl.HarderPuzzle(puzzleOf(text))
		wantPuzzle(t, "HarderPuzzle of "+text, got, ok, puzzleOf(want))
	}
	for _, text := range []string{"LR:2x1:", "LR:2x1:2.1.1", "LR:2x1:4.3.0", "LR:2x1:2.1.1,2.1.3", "U:1x1:2.50.2", "LR:8x1:"} {
		got, ok := impl.HarderPuzzle(puzzleOf(text))
		wantNoPuzzle(t, "HarderPuzzle of "+text, got, ok)
	}
}

// The numbers behind the seed 0 are 2083, 6399, 7660, 7938, 9888, 4128, 4977, 3085, 7596, 8281 and 1639; those behind 9999 begin with 875, 4117, 3316, 2449, 1623 and 6988.
func TestMakePuzzle(t *testing.T) {
	for _, c := range []struct {
		rule  string
		cells string
		seed  int
		want  string
	}{
		{"LR", "00", 0, "3.24.2,0.0.0,3.48.2,2.25.3,1.19.0,4.0.0"},
		{"LR", "10", 0, "3.24.1,0.0.1,3.48.1,2.25.1,1.19.0,4.1.0"},
		{"LR", "11", 0, "3.24.0,0.0.1,3.48.0,2.25.1,1.19.0,4.2.0"},
		{"LR", "10", 9999, "0.1.0,1.1.1,3.1.2"},
		{"LR", "11", 9999, "0.1.1,1.1.1,3.1.1"},
		{"U", "00", 0, "3.24.2,0.0.0,3.48.2,2.25.2,1.19.0,4.0.0"},
	} {
		w := hiddenOf(c.rule, 2, 1, c.cells)
		want := puzzleOf(c.rule + ":2x1:" + c.want)
		for count := range len(want.Clues) + 1 {
			got, ok := impl.MakePuzzle(w, count, c.seed)
			first := want
			first.Clues = want.Clues[:count]
			wantPuzzle(t, "MakePuzzle of "+strconv.Itoa(count)+" clues from "+strconv.Itoa(c.seed), got, ok, first)
		}
	}
}

// A sum takes no number more: the number behind the seed 11 is 3744, the next one, 7035, is a kind again, and 3626 tells the cell. Those behind 7 are 3140 and 5894.
func TestMakePuzzleTakesNoNumberForASum(t *testing.T) {
	w := hiddenOf("LRN", 5, 1, "02101")
	got, ok := impl.MakePuzzle(w, 2, 11)
	wantPuzzle(t, "MakePuzzle from 11", got, ok, puzzleOf("LRN:5x1:4.4.0,0.1.2"))
	got, ok = impl.MakePuzzle(w, 1, 7)
	wantPuzzle(t, "MakePuzzle from 7", got, ok, puzzleOf("LRN:5x1:0.4.1"))
}

func TestPuzzleTextAndParsePuzzle(t *testing.T) {
	for _, text := range []string{
		"L:1x1:", "LR:2x1:2.1.1,4.1.0", "LR:8x1:0.7.1,1.50.7,2.50.3,3.50.8,4.100.0,4.0.0", "LRNULR:3x1:0.2.5", "N:9x1:1.10.8", "UN:1x8:3.9.8", "U:3x3:4.99.0,4.10.0,4.9.0", "RL:1x1:2.0.0,2.0.0,2.0.0,2.0.0,2.0.0,2.0.0",
	} {
		got, ok := impl.ParsePuzzle(text)
		wantPuzzle(t, "ParsePuzzle of "+text, got, ok, puzzleOf(text))
		again, ok := impl.PuzzleText(puzzleOf(text))
		wantText(t, "PuzzleText", again, ok, text, true)
	}
}

// spoilClues changes all clues of a list and all that have room behind them.
func spoilClues(clues []impl.Clue) {
	clues = clues[:cap(clues)]
	for i := range clues {
		clues[i] = impl.Clue{Kind: -9, A: -9, B: -9}
	}
}

// Results may be changed at will: neither arguments nor later results show it.
func TestResultsOfPuzzlesAreNewlyAllocated(t *testing.T) {
	for _, text := range []string{"LR:2x1:2.1.1,4.1.0", "LR:2x1:3.1.2", "U:1x1:2.0.0", "U:1x1:", "LR:2x1:1.0.0,2.1.1,4.1.0,1.0.0,2.0.0"} {
		p := puzzleOf(text)
		w := hiddenOf(p.Rule, p.Width, p.Height, strings.Repeat("0", p.Width*p.Height))
		puzzles := map[string]func() (impl.Puzzle, bool){
			"AddClue":      func() (impl.Puzzle, bool) { return impl.AddClue(p, impl.Clue{Kind: 2}) },
			"HarderPuzzle": func() (impl.Puzzle, bool) { return impl.HarderPuzzle(p) },
			"MakePuzzle":   func() (impl.Puzzle, bool) { return impl.MakePuzzle(w, 4, 5) },
			"ParsePuzzle":  func() (impl.Puzzle, bool) { return impl.ParsePuzzle(text) },
		}
		for k := range p.Clues {
			puzzles["DropClue "+strconv.Itoa(k)] = func() (impl.Puzzle, bool) { return impl.DropClue(p, k) }
		}
		for name, puzzle := range puzzles {
			first, ok := puzzle()
			want := first
			want.Clues = slices.Clone(first.Clues)
			spoilClues(first.Clues)
			again, fine := puzzle()
			wantPuzzle(t, name+" again", again, ok && fine, want)
			wantPuzzle(t, "the argument of "+name, p, true, puzzleOf(text))
		}
		spoilLists := func() {
			needless, _ := impl.NeedlessClues(p)
			spoil(needless)
			left, _ := impl.LeftByClues(p)
			spoil(left)
			solutions, _ := impl.Solutions(p)
			solutions = solutions[:cap(solutions)]
			for i := range solutions {
				solutions[i] = "spoilt"
			}
		}
		f := futures{}
		for range 3 {
			spoilLists()
			wantSolutions(t, p, f.solutions(shapeOf(p), p.Clues...)...)
			wantCounts(t, f, p)
		}
	}
}
