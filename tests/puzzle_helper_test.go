package tests

import (
	"slices"
	"strconv"
	"strings"
	"testing"

	"loop.example/g01276/impl"
)

// hiddenOf returns the hidden world of a rule and a size with Cells.
func hiddenOf(rule string, width, height int, cells string) impl.World {
	return impl.World{Rule: rule, Width: width, Height: height, Cells: cells}
}

// shape is a rule and a size.
type shape struct {
	rule          string
	width, height int
}

// cells returns how many cells a shape has.
func (s shape) cells() int { return s.width * s.height }

// boards returns how many Cells a shape has, or ok false if there are too many cells or boards.
func (s shape) boards() (count int, ok bool) {
	if s.cells() > 9 {
		return 0, false
	}
	count = 1
	for range s.cells() {
		if count *= len(s.rule); count > 300 {
			return 0, false
		}
	}
	return count, true
}

// hiddenShapes returns shapes of hidden worlds of each number of colours and each size that they may have.
func hiddenShapes() []shape {
	n := &numbers{last: 83}
	var shapes []shape
	for colours := 1; colours <= 6; colours++ {
		for width := 1; width <= 9; width++ {
			for height := 1; height <= 9; height++ {
				s := shape{n.someRule(colours), width, height}
				if _, ok := s.boards(); ok {
					shapes = append(shapes, s)
				}
			}
		}
	}
	return shapes
}

// hiddenWorlds returns all hidden worlds of a shape, in the order of bytes.
func (s shape) hiddenWorlds() []impl.World {
	texts := plainCells(len(s.rule), s.cells())
	slices.Sort(texts)
	var worlds []impl.World
	for _, cells := range texts {
		worlds = append(worlds, hiddenOf(s.rule, s.width, s.height, cells))
	}
	return worlds
}

// shapeOf returns the shape of a puzzle.
func shapeOf(p impl.Puzzle) shape { return shape{p.Rule, p.Width, p.Height} }

// puzzle returns the puzzle of a shape with clues.
func (s shape) puzzle(clues ...impl.Clue) impl.Puzzle {
	return impl.Puzzle{Rule: s.rule, Width: s.width, Height: s.height, Clues: clues}
}

// futures holds for worlds what they are behind 0 up to 50 steps, so that these are made once alone.
type futures map[impl.World][]impl.World

// of returns a world behind 0 up to 50 steps.
func (f futures) of(w impl.World) []impl.World {
	if f[w] == nil {
		for now := w; len(f[w]) <= 50; _, now = plainStep(now) {
			f[w] = append(f[w], now)
		}
	}
	return f[w]
}

// doesFit reports whether a hidden world fits a clue, by the document's words.
func (f futures) doesFit(w impl.World, c impl.Clue) bool {
	switch c.Kind {
	case 0:
		return w.Cells[c.A:c.A+1] == strconv.Itoa(c.B)
	case 1:
		behind := f.of(w)[c.A]
		return behind.X == c.B%w.Width && behind.Y == c.B/w.Width
	case 2:
		return f.of(w)[c.A].Way == c.B
	case 3:
		return len(strings.ReplaceAll(f.of(w)[c.A].Cells, "0", ""))+c.B == len(w.Cells)
	case 4:
		return colourSum(w) == c.A
	}
	panic("there is no clue of the kind " + strconv.Itoa(c.Kind))
}

// solutions returns the Cells of the hidden worlds that fit clues.
func (f futures) solutions(s shape, clues ...impl.Clue) []string {
	var fitting []string
	for _, w := range s.hiddenWorlds() {
		if !slices.ContainsFunc(clues, func(c impl.Clue) bool { return !f.doesFit(w, c) }) {
			fitting = append(fitting, w.Cells)
		}
	}
	return fitting
}

// someClues returns clues, so many of them, that a hidden world fits, of all kinds.
func (f futures) someClues(n *numbers, w impl.World, count int) []impl.Clue {
	var clues []impl.Clue
	for range count {
		kind := n.below(5)
		var fitting []impl.Clue
		for c := range plainClues(len(w.Rule), len(w.Cells)) {
			if c.Kind == kind && f.doesFit(w, c) {
				fitting = append(fitting, c)
			}
		}
		slices.SortFunc(fitting, func(c, d impl.Clue) int { return 1000*(c.A-d.A) + c.B - d.B })
		clues = append(clues, fitting[n.below(len(fitting))])
	}
	return clues
}

// plainClues returns all clues of a world of so many colours and cells.
func plainClues(colours, cells int) map[impl.Clue]bool {
	all := map[impl.Clue]bool{}
	for cell := range cells {
		for colour := range colours {
			all[impl.Clue{Kind: 0, A: cell, B: colour}] = true
		}
	}
	for steps := range 51 {
		for cell := range cells {
			all[impl.Clue{Kind: 1, A: steps, B: cell}] = true
		}
		for way := range 4 {
			all[impl.Clue{Kind: 2, A: steps, B: way}] = true
		}
		for free := range cells + 1 {
			all[impl.Clue{Kind: 3, A: steps, B: free}] = true
		}
	}
	for sum := range 101 {
		all[impl.Clue{Kind: 4, A: sum}] = true
	}
	return all
}

// sampleShapes returns some shapes of hidden worlds: of one cell, of the most cells and boards, rows, columns and others.
func sampleShapes() []shape {
	return []shape{
		{"L", 1, 1}, {"U", 3, 3}, {"N", 9, 1}, {"R", 1, 9}, {"LR", 1, 1}, {"RL", 2, 1}, {"UN", 1, 2}, {"LR", 4, 2}, {"NL", 8, 1}, {"RU", 2, 3}, {"RR", 1, 7},
		{"LRN", 1, 1}, {"URL", 2, 2}, {"NRL", 5, 1}, {"LLR", 1, 4}, {"LRNU", 1, 1}, {"RLUN", 2, 2}, {"UURL", 1, 3}, {"LRLRN", 1, 1}, {"NULRR", 3, 1}, {"LRNULR", 1, 1}, {"RRLLNU", 1, 3}, {"ULNRUL", 2, 1},
	}
}

// samplePuzzles returns puzzles of many shapes, without clues, with few of them and with 6, which have one solution, some, all hidden worlds or none.
func samplePuzzles(f futures) []impl.Puzzle {
	n := &numbers{last: 89}
	var puzzles []impl.Puzzle
	for _, s := range sampleShapes() {
		puzzles = append(puzzles, s.puzzle())
		worlds := s.hiddenWorlds()
		for count := 1; count <= 6; count++ {
			w := worlds[n.below(len(worlds))]
			puzzles = append(puzzles, s.puzzle(f.someClues(n, w, count)...))
		}
		// The clues of two worlds often contradict each other.
		one, other := worlds[n.below(len(worlds))], worlds[n.below(len(worlds))]
		puzzles = append(puzzles, s.puzzle(append(f.someClues(n, one, 3), f.someClues(n, other, 2)...)...))
		// No colours are 100 together, and each ant begins at 0, 0.
		puzzles = append(puzzles, s.puzzle(impl.Clue{Kind: 4, A: 100}), s.puzzle(impl.Clue{Kind: 1}, impl.Clue{Kind: 2}))
	}
	return puzzles
}

// puzzleName returns the text of a puzzle, whatever its parts are.
func puzzleName(p impl.Puzzle) string {
	text := p.Rule + ":" + strconv.Itoa(p.Width) + "x" + strconv.Itoa(p.Height) + ":"
	for k, c := range p.Clues {
		if k > 0 {
			text += ","
		}
		text += strconv.Itoa(c.Kind) + "." + strconv.Itoa(c.A) + "." + strconv.Itoa(c.B)
	}
	return text
}

// puzzleOf returns the puzzle with a text that is right.
func puzzleOf(text string) impl.Puzzle {
	number := func(part string) int {
		n, err := strconv.Atoi(part)
		if err != nil {
			panic(err)
		}
		return n
	}
	parts := strings.Split(text, ":")
	width, height, _ := strings.Cut(parts[1], "x")
	p := impl.Puzzle{Rule: parts[0], Width: number(width), Height: number(height)}
	for clue := range strings.FieldsFuncSeq(parts[2], func(sign rune) bool { return sign == ',' }) {
		c := strings.Split(clue, ".")
		p.Clues = append(p.Clues, impl.Clue{Kind: number(c[0]), A: number(c[1]), B: number(c[2])})
	}
	return p
}

// samePuzzle reports whether two puzzles are the same; nil and empty clues are the same value.
func samePuzzle(p, q impl.Puzzle) bool {
	return shapeOf(p) == shapeOf(q) && slices.Equal(p.Clues, q.Clues)
}

// isZeroPuzzle reports whether a puzzle has all its fields zero.
func isZeroPuzzle(p impl.Puzzle) bool { return samePuzzle(p, impl.Puzzle{}) }

// wantPuzzle checks that a call succeeded with a puzzle.
func wantPuzzle(t *testing.T, call string, got impl.Puzzle, ok bool, want impl.Puzzle) {
	t.Helper()
	if !ok || !samePuzzle(got, want) {
		t.Errorf("%s is %s, %v; want %s", call, puzzleName(got), ok, puzzleName(want))
	}
}

// wantNoPuzzle checks that a call failed, with a puzzle that is zero.
func wantNoPuzzle(t *testing.T, call string, got impl.Puzzle, ok bool) {
	t.Helper()
	if ok || !isZeroPuzzle(got) {
		t.Errorf("%s is %s, %v; want none", call, puzzleName(got), ok)
	}
}

// wantSolutions checks all functions that tell of the solutions of a puzzle.
func wantSolutions(t *testing.T, p impl.Puzzle, want ...string) {
	t.Helper()
	what := " of " + puzzleName(p)
	got, ok := impl.Solutions(p)
	if !ok || !slices.Equal(got, want) {
		t.Errorf("Solutions%s are %v, %v; want %v", what, got, ok, want)
	}
	count, ok := impl.CountSolutions(p)
	wantNumber(t, "CountSolutions"+what, count, ok, len(want), true)
	solved, ok := impl.IsSolved(p)
	wantTruth(t, "IsSolved"+what, solved, ok, len(want) == 1)
	first, ok := impl.FirstSolution(p)
	sure, fine := impl.SureCells(p)
	if len(want) == 0 {
		wantText(t, "FirstSolution"+what, first, ok, "", false)
		wantText(t, "SureCells"+what, sure, fine, "", false)
		return
	}
	wantText(t, "FirstSolution"+what, first, ok, want[0], true)
	wantText(t, "SureCells"+what, sure, fine, plainSure(want), true)
}

// plainSure returns for each cell the digit that all texts have there, or a question mark.
func plainSure(texts []string) string {
	sure := ""
	for at := range texts[0] {
		digits := map[string]bool{}
		for _, text := range texts {
			digits[text[at:at+1]] = true
		}
		if len(digits) > 1 {
			sure += "?"
		} else {
			sure += texts[0][at : at+1]
		}
	}
	return sure
}

// without returns the clues without one.
func without(clues []impl.Clue, k int) []impl.Clue {
	var left []impl.Clue
	for at, c := range clues {
		if at != k {
			left = append(left, c)
		}
	}
	return left
}

// plainMade returns the clues that are made for a hidden world from a seed, by the document's words.
func (f futures) plainMade(w impl.World, count, seed int) []impl.Clue {
	row := []int{seed}
	next := func() int {
		row = append(row, (row[len(row)-1]*151+2083)%10007)
		return row[len(row)-1]
	}
	var clues []impl.Clue
	for range count {
		c := impl.Clue{Kind: next() % 5}
		switch c.Kind {
		case 0:
			c.A = next() % len(w.Cells)
		case 1, 2, 3:
			c.A = next() % 51
		case 4:
			c.A = colourSum(w)
		}
		// All else is as the world has it.
		for !f.doesFit(w, c) {
			c.B++
		}
		clues = append(clues, c)
	}
	return clues
}

// wantCounts checks all functions that count for a puzzle how many hidden worlds fit some of its clues.
func wantCounts(t *testing.T, f futures, p impl.Puzzle) {
	t.Helper()
	what := " of " + puzzleName(p)
	count := func(clues ...impl.Clue) int { return len(f.solutions(shapeOf(p), clues...)) }
	all := count(p.Clues...)
	left, needless, best := []int{count()}, []int(nil), 0
	for k, c := range p.Clues {
		left = append(left, count(p.Clues[:k+1]...))
		if count(without(p.Clues, k)...) == all {
			needless = append(needless, k)
		}
		if count(c) < count(p.Clues[best]) {
			best = k
		}
	}
	list, ok := impl.LeftByClues(p)
	wantList(t, "LeftByClues"+what, list, ok, left...)
	list, ok = impl.NeedlessClues(p)
	wantList(t, "NeedlessClues"+what, list, ok, needless...)
	n, ok := impl.BestClue(p)
	wantNumber(t, "BestClue"+what, n, ok, best, len(p.Clues) > 0)
}

// wantHarder checks HarderPuzzle: clues are taken out one after the other, as long as there is one solution.
func wantHarder(t *testing.T, f futures, p impl.Puzzle) {
	t.Helper()
	got, ok := impl.HarderPuzzle(p)
	if len(f.solutions(shapeOf(p), p.Clues...)) != 1 {
		wantNoPuzzle(t, "HarderPuzzle of "+puzzleName(p), got, ok)
		return
	}
	kept := p.Clues
	for k := 0; k < len(kept); {
		if fewer := without(kept, k); len(f.solutions(shapeOf(p), fewer...)) == 1 {
			kept = fewer
		} else {
			k++
		}
	}
	wantPuzzle(t, "HarderPuzzle of "+puzzleName(p), got, ok, shapeOf(p).puzzle(kept...))
}
