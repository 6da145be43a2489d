package tests

import (
	"slices"
	"strconv"
	"testing"

	"loop.example/g01276/impl"
)

// These are tests of the ninth promise: solutions fit all clues, and harder puzzles are solved by the same cells.

func TestSolutionsFitAllClues(t *testing.T) {
	f := futures{}
	none, one, all := 0, 0, 0
	for _, p := range samplePuzzles(f) {
		want := f.solutions(shapeOf(p), p.Clues...)
		wantSolutions(t, p, want...)
		for _, cells := range want {
			for _, c := range p.Clues {
				fits, ok := impl.DoesFit(c, hiddenOf(p.Rule, p.Width, p.Height, cells))
				wantTruth(t, "DoesFit of "+cells+" and "+puzzleName(shapeOf(p).puzzle(c)), fits, ok, true)
			}
		}
		switch boards, _ := shapeOf(p).boards(); len(want) {
		case 0:
			none++
		case 1:
			one++
		case boards:
			all++
		}
	}
	if none < 20 || one < 20 || all < 20 {
		t.Errorf("%d puzzles have no solution, %d one and %d all", none, one, all)
	}
}

// All shapes of hidden worlds have all their Cells as solutions of the puzzle without clues, in the order of bytes.
func TestAllShapesHaveAllBoards(t *testing.T) {
	f := futures{}
	for _, s := range hiddenShapes() {
		want, _ := s.boards()
		all := f.solutions(s)
		if len(all) != want || !slices.IsSorted(all) {
			t.Fatalf("%v has %d boards", s, len(all))
		}
		wantSolutions(t, s.puzzle(), all...)
		// One clue for the last cell leaves the Cells that have the colour there.
		last := impl.Clue{Kind: 0, A: s.cells() - 1, B: len(s.rule) - 1}
		wantSolutions(t, s.puzzle(last), f.solutions(s, last)...)
	}
}

// Each clue of some shapes, also with the least and the greatest numbers of its kind, fits just the worlds that the document tells.
func TestAllCluesOfSomeShapes(t *testing.T) {
	f := futures{}
	for _, s := range []shape{{"L", 1, 1}, {"U", 3, 3}, {"N", 1, 9}, {"LR", 1, 1}, {"RL", 2, 1}, {"LR", 2, 2}, {"UN", 1, 3}, {"LRN", 1, 1}, {"NUR", 2, 1}, {"LRNU", 2, 1}, {"LRNULR", 1, 2}} {
		for c := range plainClues(len(s.rule), s.cells()) {
			for _, w := range s.hiddenWorlds() {
				got, ok := impl.DoesFit(c, w)
				if want := f.doesFit(w, c); got != want || !ok {
					t.Fatalf("DoesFit of %+v and %s is %v, %v; want %v", c, puzzleName(s.puzzle())+w.Cells, got, ok, want)
				}
			}
		}
	}
}

// The worlds of the most boards and of the most cells fit clues as the document tells too.
func TestCluesOfTheGreatestShapes(t *testing.T) {
	f := futures{}
	for _, s := range []shape{{"LR", 4, 2}, {"RL", 2, 4}, {"NL", 8, 1}, {"UR", 1, 8}, {"LRNU", 2, 2}, {"URL", 5, 1}, {"LNRLUR", 1, 3}, {"LLRLN", 3, 1}, {"U", 9, 1}, {"R", 3, 3}} {
		for c := range plainClues(len(s.rule), s.cells()) {
			if c.Kind > 0 && c.Kind < 4 && c.A%7 != 1 {
				continue
			}
			for i, w := range s.hiddenWorlds() {
				if i%5 > 0 {
					continue
				}
				got, ok := impl.DoesFit(c, w)
				if want := f.doesFit(w, c); got != want || !ok {
					t.Fatalf("DoesFit of %+v and %s is %v, %v; want %v", c, puzzleName(s.puzzle())+w.Cells, got, ok, want)
				}
			}
		}
	}
}

func TestCountsOfWorldsThatFitClues(t *testing.T) {
	f := futures{}
	for _, p := range samplePuzzles(f) {
		wantCounts(t, f, p)
	}
}

// A puzzle that is harder has the same solution, and none of its clues is needless.
func TestHarderPuzzlesAreSolvedByTheSameCells(t *testing.T) {
	f := futures{}
	harderOnes := 0
	for _, p := range solvedPuzzles(f) {
		wantHarder(t, f, p)
		harder, ok := impl.HarderPuzzle(p)
		if !ok {
			continue
		}
		before, _ := impl.FirstSolution(p)
		wantSolutions(t, harder, before)
		needless, ok := impl.NeedlessClues(harder)
		wantList(t, "NeedlessClues of the harder "+puzzleName(harder), needless, ok)
		again, ok := impl.HarderPuzzle(harder)
		wantPuzzle(t, "HarderPuzzle of the harder "+puzzleName(harder), again, ok, harder)
		if len(harder.Clues) > 1 && len(harder.Clues)+1 < len(p.Clues) {
			harderOnes++
		}
	}
	if harderOnes < 20 {
		t.Errorf("%d puzzles have become harder by some clues and have some left", harderOnes)
	}
}

// solvedPuzzles returns puzzles of all sample shapes, most of which are solved, with clues that are needless in many orders.
func solvedPuzzles(f futures) []impl.Puzzle {
	n := &numbers{last: 103}
	puzzles := samplePuzzles(f)
	for _, s := range sampleShapes() {
		worlds := s.hiddenWorlds()
		for range 12 {
			w := worlds[n.below(len(worlds))]
			puzzles = append(puzzles, s.puzzle(f.someClues(n, w, 6)...))
			clues := f.plainMade(w, 3, n.below(10000))
			for range min(3, len(w.Cells)) {
				cell := n.below(len(w.Cells))
				clues = append(clues, impl.Clue{Kind: 0, A: cell, B: int(w.Cells[cell] - '0')})
			}
			puzzles = append(puzzles, s.puzzle(clues...))
		}
	}
	return puzzles
}

// A puzzle that is made has clues that its world fits, from the least and the greatest seed too, and fewer clues are the first ones.
func TestPuzzlesAreMade(t *testing.T) {
	f := futures{}
	n := &numbers{last: 107}
	for _, s := range hiddenShapes() {
		worlds := s.hiddenWorlds()
		for _, seed := range []int{0, 1, 9998, 9999, n.below(10000), n.below(10000), n.below(10000)} {
			w := worlds[n.below(len(worlds))]
			wantMade(t, f, w, seed)
		}
	}
	for seed := range 10000 {
		wantMade(t, f, hiddenOf("LRU", 4, 1, "0212"), seed)
	}
}

// wantMade checks the puzzles with all numbers of clues that are made for a hidden world from a seed.
func wantMade(t *testing.T, f futures, w impl.World, seed int) {
	t.Helper()
	s := shape{w.Rule, w.Width, w.Height}
	clues := f.plainMade(w, 6, seed)
	for count := range 7 {
		what := "MakePuzzle of " + puzzleName(s.puzzle()) + w.Cells + ", " + strconv.Itoa(count) + " and " + strconv.Itoa(seed)
		got, ok := impl.MakePuzzle(w, count, seed)
		wantPuzzle(t, what, got, ok, s.puzzle(clues[:count]...))
	}
	for _, c := range clues {
		fits, ok := impl.DoesFit(c, w)
		wantTruth(t, "DoesFit of a clue that was made", fits, ok, true)
	}
}

// The world for which a puzzle is made is one of its solutions, and with clues for all its cells the only one.
func TestPuzzlesThatAreMadeHaveTheirWorldAsASolution(t *testing.T) {
	for _, w := range (shape{"LR", 2, 2}).hiddenWorlds() {
		for seed := range 60 {
			p, ok := impl.MakePuzzle(w, 6, seed)
			solutions, fine := impl.Solutions(p)
			if !ok || !fine || !slices.Contains(solutions, w.Cells) {
				t.Errorf("Solutions of %s are %v; want %s too", puzzleName(p), solutions, w.Cells)
			}
		}
	}
	for _, s := range hiddenShapes() {
		if s.cells() > 6 {
			continue
		}
		for i, w := range s.hiddenWorlds() {
			if i%9 > 0 {
				continue
			}
			p := s.puzzle()
			for cell, digit := range w.Cells {
				p.Clues = append(p.Clues, impl.Clue{Kind: 0, A: cell, B: int(digit - '0')})
			}
			wantSolutions(t, p, w.Cells)
		}
	}
}

// A clue that is added is dropped again, and a puzzle is made anew from its clues, one after the other.
func TestCluesAreAddedAndDropped(t *testing.T) {
	f := futures{}
	for _, p := range samplePuzzles(f) {
		grown := shapeOf(p).puzzle()
		for k, c := range p.Clues {
			longer, ok := impl.AddClue(grown, c)
			wantPuzzle(t, "AddClue", longer, ok, shapeOf(p).puzzle(p.Clues[:k+1]...))
			shorter, ok := impl.DropClue(longer, k)
			wantPuzzle(t, "DropClue of the last one", shorter, ok, grown)
			grown = longer
			dropped, ok := impl.DropClue(p, k)
			wantPuzzle(t, "DropClue "+strconv.Itoa(k)+" of "+puzzleName(p), dropped, ok, shapeOf(p).puzzle(without(p.Clues, k)...))
		}
		wantPuzzle(t, "the puzzle made anew", grown, true, p)
	}
}

func TestTextsOfPuzzlesAreReadBack(t *testing.T) {
	f := futures{}
	for _, p := range samplePuzzles(f) {
		text, ok := impl.PuzzleText(p)
		wantText(t, "PuzzleText", text, ok, puzzleName(p), true)
		got, ok := impl.ParsePuzzle(text)
		wantPuzzle(t, "ParsePuzzle of "+text, got, ok, p)
	}
	for _, s := range hiddenShapes() {
		for c := range plainClues(len(s.rule), s.cells()) {
			p := s.puzzle(c)
			got, ok := impl.ParsePuzzle(puzzleName(p))
			wantPuzzle(t, "ParsePuzzle of "+puzzleName(p), got, ok, p)
		}
	}
}
