package tests

import (
	"math"
	"regexp"
	"slices"
	"strconv"
	"strings"
	"testing"

	"loop.example/g01276/impl"
)

// These are tests of the promise that every function accepts all arguments, for puzzles: invalid ones give zero values.

// farNumbers are numbers that are too small or too great for each part of a clue or a puzzle.
func farNumbers() []int {
	return []int{-1, -2, -50, 101, 102, 1000, 1 << 32, -1 << 32, 1<<32 + 1, 1 << 62, math.MaxInt, math.MinInt}
}

// invalidClues returns clues that are none of a world of so many colours and cells: those that are by one beside the least and the greatest numbers, and far ones.
func invalidClues(colours, cells int) []impl.Clue {
	all := plainClues(colours, cells)
	var invalid []impl.Clue
	for kind := -1; kind <= 5; kind++ {
		for _, a := range append(farNumbers(), 0, 1, cells-1, cells, 50, 51, 100) {
			for _, b := range append(farNumbers(), 0, 1, colours-1, colours, cells-1, cells, cells+1, 3, 4) {
				if c := (impl.Clue{Kind: kind, A: a, B: b}); !all[c] {
					invalid = append(invalid, c)
				}
			}
		}
	}
	for _, kind := range farNumbers() {
		invalid = append(invalid, impl.Clue{Kind: kind}, impl.Clue{Kind: kind, A: kind, B: kind})
	}
	return invalid
}

// invalidShapes returns rules and sizes that no hidden world has.
func invalidShapes() []shape {
	shapes := []shape{
		{}, {"LR", 9, 1}, {"LR", 1, 9}, {"LR", 3, 3}, {"LRN", 6, 1}, {"LRN", 2, 3}, {"LRNU", 5, 1}, {"LRNUL", 2, 2}, {"LRNULR", 1, 4}, {"LRNULR", 9, 1}, {"U", 5, 2}, {"U", 2, 5}, {"U", 9, 9}, {"U", 9, 2}, {"U", 10, 1}, {"U", 1, 10},
		{"LR", -2, -1}, {"LR", -1, -1}, {"LR", 0, 0}, {"U", 1 << 32, 1 << 32}, {"U", 1 << 62, 4}, {"U", math.MinInt, math.MinInt},
	}
	for _, rule := range invalidRules() {
		shapes = append(shapes, shape{rule, 2, 1}, shape{rule, 1, 1})
	}
	for _, n := range append(farNumbers(), 0, 10) {
		shapes = append(shapes, shape{"LR", n, 1}, shape{"LR", 1, n}, shape{"U", n, n})
	}
	return shapes
}

func invalidPuzzles() []impl.Puzzle {
	var puzzles []impl.Puzzle
	for _, s := range invalidShapes() {
		puzzles = append(puzzles, s.puzzle(), s.puzzle(impl.Clue{Kind: 2}), s.puzzle(impl.Clue{Kind: 4, A: -1}))
	}
	for _, s := range []shape{{"LR", 2, 1}, {"U", 3, 3}, {"LRNULR", 1, 1}} {
		valid := impl.Clue{Kind: 1}
		for _, c := range invalidClues(len(s.rule), s.cells()) {
			puzzles = append(puzzles, s.puzzle(c), s.puzzle(valid, valid, valid, valid, valid, c))
		}
		puzzles = append(puzzles, s.puzzle(impl.Clue{Kind: 4, A: -1}, valid), s.puzzle(valid, impl.Clue{Kind: 5}, valid))
		puzzles = append(puzzles, s.puzzle(make([]impl.Clue, 7)...), s.puzzle(make([]impl.Clue, 100000)...), s.puzzle(valid, valid, valid, valid, valid, valid, impl.Clue{Kind: -1}))
	}
	return puzzles
}

// invalidHidden returns worlds that are none, and worlds that are not hidden ones.
func invalidHidden() []impl.World {
	worlds := append(invalidWorlds(),
		impl.World{Rule: "LR", Width: 2, Height: 1, Cells: "01", X: 1}, impl.World{Rule: "LR", Width: 1, Height: 2, Cells: "01", Y: 1}, impl.World{Rule: "LR", Width: 2, Height: 1, Cells: "01", Way: 1},
		impl.World{Rule: "LR", Width: 2, Height: 1, Cells: "01", Way: 3}, impl.World{Rule: "U", Width: 3, Height: 3, Cells: "000000000", X: 2, Y: 2, Way: 2}, impl.World{Rule: "U", Width: 1, Height: 1, Cells: "0", Way: 2},
		impl.World{Rule: "LR", Width: 2, Height: 1, Cells: "02"}, impl.World{Rule: "LR", Width: 2, Height: 1, Cells: "0"}, impl.World{Rule: "LR", Width: 2, Height: 1, Cells: "010"}, impl.World{Rule: "LR", Width: 2, Height: 1},
		impl.World{Rule: "LR", Width: 2, Height: 1, Cells: "01", X: 2}, impl.World{Rule: "LR", Width: 2, Height: 1, Cells: "01", Way: 4}, impl.World{Rule: "LR", Width: 2, Height: 1, Cells: "01", X: -2, Way: -4},
	)
	for _, s := range invalidShapes() {
		worlds = append(worlds, hiddenOf(s.rule, s.width, s.height, strings.Repeat("0", min(100, max(0, s.width))*min(100, max(0, s.height)))))
	}
	return worlds
}

// solveResults calls each function of a puzzle alone and tells, by name, whether all is zero.
func solveResults(p impl.Puzzle) map[string]bool {
	zero := map[string]bool{}
	solutions, ok := impl.Solutions(p)
	zero["Solutions"] = len(solutions) == 0 && !ok
	n, ok := impl.CountSolutions(p)
	zero["CountSolutions"] = n == 0 && !ok
	text, ok := impl.FirstSolution(p)
	zero["FirstSolution"] = text == "" && !ok
	text, ok = impl.SureCells(p)
	zero["SureCells"] = text == "" && !ok
	solved, ok := impl.IsSolved(p)
	zero["IsSolved"] = !solved && !ok
	list, ok := impl.NeedlessClues(p)
	zero["NeedlessClues"] = len(list) == 0 && !ok
	list, ok = impl.LeftByClues(p)
	zero["LeftByClues"] = len(list) == 0 && !ok
	n, ok = impl.BestClue(p)
	zero["BestClue"] = n == 0 && !ok
	harder, ok := impl.HarderPuzzle(p)
	zero["HarderPuzzle"] = isZeroPuzzle(harder) && !ok
	text, ok = impl.PuzzleText(p)
	zero["PuzzleText"] = text == "" && !ok
	return zero
}

// clueResults does so for the functions of a puzzle and of a clue or its index.
func clueResults(p impl.Puzzle, c impl.Clue, k int) map[string]bool {
	zero := map[string]bool{}
	longer, ok := impl.AddClue(p, c)
	zero["AddClue"] = isZeroPuzzle(longer) && !ok
	shorter, ok := impl.DropClue(p, k)
	zero["DropClue"] = isZeroPuzzle(shorter) && !ok
	return zero
}

// hiddenResults does so for the functions of a hidden world.
func hiddenResults(w impl.World, c impl.Clue, clues, seed int) map[string]bool {
	zero := map[string]bool{}
	fits, ok := impl.DoesFit(c, w)
	zero["DoesFit"] = !fits && !ok
	made, ok := impl.MakePuzzle(w, clues, seed)
	zero["MakePuzzle"] = isZeroPuzzle(made) && !ok
	return zero
}

func TestInvalidPuzzlesGiveZeroValues(t *testing.T) {
	for _, p := range invalidPuzzles() {
		what := puzzleName(impl.Puzzle{Rule: p.Rule[:min(len(p.Rule), 100)], Width: p.Width, Height: p.Height, Clues: p.Clues[:min(len(p.Clues), 9)]})
		wantZero(t, what, solveResults(p))
		for _, k := range []int{0, 1, len(p.Clues) - 1, len(p.Clues), -1} {
			wantZero(t, what, clueResults(p, impl.Clue{Kind: 2}, k))
			wantZero(t, what, clueResults(p, impl.Clue{Kind: -1}, k))
		}
	}
}

func TestInvalidWorldsOfPuzzlesGiveZeroValues(t *testing.T) {
	for _, w := range invalidHidden() {
		what := "a world of the rule " + strconv.Quote(w.Rule[:min(len(w.Rule), 100)]) + " and " + strconv.Itoa(len(w.Cells)) + " cells"
		for _, c := range []impl.Clue{{}, {Kind: 1}, {Kind: 2}, {Kind: 2, B: 1}, {Kind: 3}, {Kind: 4}, {Kind: 5}, {Kind: 0, A: len(w.Cells) - 1}, {Kind: 3, B: len(w.Cells)}} {
			for _, count := range []int{0, 1, 6, 7} {
				wantZero(t, what, hiddenResults(w, c, count, 0))
				wantZero(t, what, hiddenResults(w, c, count, 9999))
			}
		}
	}
}

func TestInvalidCluesGiveZeroValues(t *testing.T) {
	for _, s := range []shape{{"LR", 2, 1}, {"N", 1, 1}, {"U", 9, 1}, {"LRN", 1, 5}, {"LRNULR", 3, 1}} {
		for _, c := range invalidClues(len(s.rule), s.cells()) {
			what := puzzleName(s.puzzle(c))
			if impl.IsClue(s.rule, s.cells(), c) {
				t.Errorf("IsClue of %s", what)
			}
			w := hiddenOf(s.rule, s.width, s.height, strings.Repeat("0", s.cells()))
			wantZero(t, what, hiddenResults(w, c, 0, 0), "DoesFit")
			wantZero(t, what, clueResults(s.puzzle(), c, 0))
			wantZero(t, what, clueResults(s.puzzle(make([]impl.Clue, 6)...), c, 6))
		}
	}
}

// A clue is none of a rule that is none, and of too few or too many cells.
func TestIsClueOfInvalidRulesAndCells(t *testing.T) {
	for _, rule := range append(invalidRules(), "LR") {
		for _, cells := range append(farNumbers(), 0, 10, 11, 81, 1, 2, 9) {
			if rule == "LR" && within(cells, 1, 9) {
				continue
			}
			for _, c := range []impl.Clue{{}, {Kind: 1}, {Kind: 2}, {Kind: 3}, {Kind: 4}, {Kind: 0, A: cells - 1}, {Kind: 1, B: cells - 1}, {Kind: 3, B: cells}, {Kind: -1}, {Kind: 5}} {
				if impl.IsClue(rule, cells, c) {
					t.Errorf("IsClue of %q, %d and %+v", rule[:min(len(rule), 100)], cells, c)
				}
			}
		}
	}
}

func TestInvalidShapesHaveNoBoards(t *testing.T) {
	for _, s := range invalidShapes() {
		got, ok := impl.CountBoards(s.rule, s.width, s.height)
		wantNumber(t, "CountBoards of "+strconv.Quote(s.rule[:min(len(s.rule), 100)])+", "+strconv.Itoa(s.width)+" and "+strconv.Itoa(s.height), got, ok, 0, false)
	}
}

func TestInvalidIndicesOfCluesGiveZeroValues(t *testing.T) {
	for _, p := range samplePuzzles(futures{}) {
		for _, k := range append(farNumbers(), len(p.Clues), len(p.Clues)+1, 6, 7) {
			wantZero(t, puzzleName(p)+" and the clue "+strconv.Itoa(k), clueResults(p, impl.Clue{Kind: 2}, k), "DropClue")
		}
	}
}

func TestInvalidNumbersOfPuzzlesThatAreMadeGiveZeroValues(t *testing.T) {
	for _, s := range sampleShapes() {
		for _, w := range s.hiddenWorlds()[:1] {
			for _, count := range append(farNumbers(), 7, 8) {
				for _, seed := range []int{0, 9999, -1, 10000, count} {
					wantZero(t, strconv.Itoa(count)+" clues from "+strconv.Itoa(seed), hiddenResults(w, impl.Clue{}, count, seed), "MakePuzzle")
				}
			}
			for _, seed := range []int{-1, -9999, 10000, 10001, 10006, 10007, 20000, 1 << 32, -1 << 32, math.MaxInt, math.MinInt} {
				for count := range 7 {
					wantZero(t, strconv.Itoa(count)+" clues from "+strconv.Itoa(seed), hiddenResults(w, impl.Clue{}, count, seed), "MakePuzzle")
				}
			}
		}
	}
}

// textOfPuzzle is how the text of a puzzle looks; a comma may be at its end here.
var textOfPuzzle = regexp.MustCompile(`\A[LRNU]{1,6}:[1-9]x[1-9]:((0|[1-9][0-9]{0,2})\.(0|[1-9][0-9]{0,2})\.(0|[1-9][0-9]{0,2})(,|\z))*\z`)

// isPuzzleText reports whether a text is that of a puzzle.
func isPuzzleText(text string) bool {
	if !textOfPuzzle.MatchString(text) || strings.HasSuffix(text, ",") {
		return false
	}
	p := puzzleOf(text)
	if _, ok := shapeOf(p).boards(); !ok || len(p.Clues) > 6 {
		return false
	}
	all := plainClues(len(p.Rule), p.Width*p.Height)
	return !slices.ContainsFunc(p.Clues, func(c impl.Clue) bool { return !all[c] })
}

// wantPuzzleRead checks that a text is read if it is that of a puzzle, and not otherwise.
func wantPuzzleRead(t *testing.T, text string) bool {
	t.Helper()
	got, ok := impl.ParsePuzzle(text)
	is := isPuzzleText(text)
	if is {
		wantPuzzle(t, "ParsePuzzle of "+text, got, ok, puzzleOf(text))
	} else {
		wantNoPuzzle(t, "ParsePuzzle of "+strconv.Quote(text[:min(len(text), 200)]), got, ok)
	}
	return is
}

func TestTextsThatAreNoPuzzles(t *testing.T) {
	for _, text := range []string{
		"", "LR", "LR:", "LR:2x1", ":2x1:", "::", ":::", "LR::", "LR:2x1::", "LR:2x1:0.0.0:", ":LR:2x1:", "LR:2x1:,", "LR:2x1:0.0.0,", "LR:2x1:,0.0.0", "LR:2x1:0.0.0,,0.0.0", "LR:2x1:0.0", "LR:2x1:0", "LR:2x1:.", "LR:2x1:..", "LR:2x1:...", "LR:2x1:0.0.", "LR:2x1:.0.0", "LR:2x1:0..0",
		"LR:2x1:0.0.0.0", "LR:2x1:0.0.0.", "LR:2x1:.0.0.0", "LR:2x1:00.0.0", "LR:2x1:0.00.0", "LR:2x1:0.0.00", "LR:2x1:+0.0.0", "LR:2x1:0.+1.0", "LR:2x1:0.0.+1", "LR:2x1:-0.0.0", "LR:2x1:0.-0.0", "LR:2x1:0.0.-0", "LR:2x1:-1.0.0", "LR:2x1:0.-1.0", "LR:2x1:0.0.-1",
		"LR:2x1: 0.0.0", "LR:2x1:0.0.0 ", "LR:2x1:0.0 .0", "LR:2x1:0.0.0, 0.0.0", "LR:2x1:0.0.0\n", "\nLR:2x1:0.0.0", "LR:2x1:0.0.0;0.0.0", "LR:2x1:0,0,0", "LR:2x1:0.0.0.0.0.0", "LR:2x1:0x0.0.0", "LR:2x1:1.1_0.0", "LR:2x1:1.0x1.1", "LR:2x1:1.1e1.0", "LR:2x1:a.0.0", "LR:2x1:0.a.0", "LR:2x1:0.0.a",
		"LR:2x1:0.2.0", "LR:2x1:0.0.2", "LR:2x1:1.51.0", "LR:2x1:1.0.2", "LR:2x1:2.51.0", "LR:2x1:2.0.4", "LR:2x1:3.51.0", "LR:2x1:3.0.3", "LR:2x1:4.101.0", "LR:2x1:4.0.1", "LR:2x1:5.0.0", "LR:2x1:0.0.0,0.0.0,0.0.0,0.0.0,0.0.0,0.0.0,0.0.0", "LR:2x1:0.0.0,0.0.0,0.0.0,0.0.0,0.0.0,0.0.0,",
		"LR:2x1:9223372036854775808.0.0", "LR:2x1:0.18446744073709551616.0", "LR:2x1:0.18446744073709551617.0", "LR:2x1:0.0.18446744073709551616", "LR:2x1:4.4294967296.0", "LR:2x1:0.0.٠", "LR:2x1:0.0.０",
		"LR:9x1:", "LR:3x3:", "LRN:6x1:", "LRNU:5x1:", "LRNUL:2x2:", "LRNULR:2x2:", "U:5x2:", "U:9x9:", "LR:0x1:", "LR:1x0:", "LR:10x1:", "U:1x10:", "LR:02x1:", "LR:2x01:", "LR:+2x1:", "LR:-2x1:", "LR:2X1:", "LR:2*1:", "LR:2x1x1:", "LR:2,1:", "LR:x:", "LR:2x:", "LR:x1:", "LR:21:",
		":1x1:", "lr:2x1:", "LX:2x1:", "LRLRLRL:1x1:", "LR :2x1:", " LR:2x1:", "LR\x00:2x1:", "\xff:1x1:", "LR:2x1:\xff", "LR:2x1:0.0.\xff", "2x1:LR:", "LR:0.0.0:2x1", "LR:2x1:00:0,0,0", "LR:3x3:000000000:1,1,0",
		strings.Repeat(":", 100000), "LR:2x1:" + strings.Repeat(",", 100000), "LR:2x1:" + strings.Repeat(".", 100000), "LR:2x1:" + strings.Repeat("0.0.0,", 100000), "LR:2x1:0.0." + strings.Repeat("0", 100000), "LR:2x1:0.0." + strings.Repeat("9", 100000), strings.Repeat("LR", 100000) + ":2x1:",
	} {
		if wantPuzzleRead(t, text) {
			t.Errorf("%q is the text of a puzzle", text[:min(len(text), 200)])
		}
	}
}

// Texts that differ from that of a puzzle by one byte are read if, and only if, they are texts of puzzles too.
func TestTextsOneByteFromThoseOfPuzzles(t *testing.T) {
	read := 0
	for _, text := range []string{"U:1x1:", "LR:2x1:", "LR:2x1:2.1.1,4.1.0", "LRNULR:3x1:0.2.5", "LR:8x1:0.7.1,1.50.7,2.50.3,3.50.8,4.100.0,4.0.0", "N:3x3:1.10.8,3.9.9", "RL:1x1:2.0.0,2.0.0,2.0.0,2.0.0,2.0.0,2.0.0"} {
		read += oneByteFrom(text, func(other string) bool { return wantPuzzleRead(t, other) })
	}
	if read < 200 {
		t.Errorf("%d texts are read", read)
	}
}

// Puzzles of the most boards, of the most cells and with the most clues, with the least and the greatest numbers, are puzzles like others.
func TestLimitsOfPuzzlesAreMetExactly(t *testing.T) {
	f := futures{}
	for _, s := range []shape{{"LR", 8, 1}, {"LR", 2, 4}, {"LRNU", 2, 2}, {"LRN", 1, 5}, {"RRLLN", 3, 1}, {"LRNULR", 1, 3}, {"L", 9, 1}, {"N", 3, 3}, {"U", 1, 9}, {"R", 1, 1}, {"LRNULR", 1, 1}} {
		cell, colour := s.cells()-1, len(s.rule)-1
		least := []impl.Clue{{Kind: 0}, {Kind: 1}, {Kind: 2}, {Kind: 3}, {Kind: 4}, {Kind: 0}}
		greatest := []impl.Clue{{Kind: 0, A: cell, B: colour}, {Kind: 1, A: 50, B: cell}, {Kind: 2, A: 50, B: 3}, {Kind: 3, A: 50, B: s.cells()}, {Kind: 4, A: 100}, {Kind: 3, A: 50}}
		for _, clues := range [][]impl.Clue{least, greatest} {
			p := s.puzzle(clues...)
			wantSolutions(t, p, f.solutions(s, clues...)...)
			wantCounts(t, f, p)
			wantHarder(t, f, p)
			wantOnly(t, puzzleName(p), clueResults(p, impl.Clue{}, 5), "AddClue")
			wantOnly(t, puzzleName(p), clueResults(p, impl.Clue{}, 6), "AddClue", "DropClue")
			wantOnly(t, "5 clues", clueResults(s.puzzle(clues[:5]...), clues[5], 4))
			for k, c := range clues {
				wantSolutions(t, s.puzzle(c), f.solutions(s, c)...)
				for _, w := range s.hiddenWorlds()[:1] {
					wantOnly(t, puzzleName(p)+" and "+strconv.Itoa(k), hiddenResults(w, c, k+1, 9999))
					wantOnly(t, puzzleName(p)+" and "+strconv.Itoa(k), hiddenResults(w, c, k, 0))
				}
			}
			// One clue more than MaxClues makes it none.
			wantZero(t, "7 clues", solveResults(s.puzzle(append(slices.Clone(clues), clues[0])...)))
		}
	}
}

// roomyPuzzle returns a puzzle whose clues are a part of more clues, and these.
func roomyPuzzle(p impl.Puzzle) (impl.Puzzle, []impl.Clue) {
	room := append(slices.Clone(p.Clues), impl.Clue{Kind: 2, A: 7, B: 2}, impl.Clue{Kind: 77, A: 78, B: 79})
	p.Clues = room[:len(p.Clues)]
	return p, room[len(p.Clues):]
}

func TestArgumentsOfPuzzlesAreNotModified(t *testing.T) {
	for _, before := range append(samplePuzzles(futures{}), invalidPuzzles()...) {
		p, behind := roomyPuzzle(before)
		impl.IsPuzzle(p)
		solveResults(p)
		longer, _ := impl.AddClue(p, impl.Clue{Kind: 1})
		spoilClues(longer.Clues)
		for k := range min(6, len(p.Clues)) {
			shorter, _ := impl.DropClue(p, k)
			spoilClues(shorter.Clues)
		}
		harder, _ := impl.HarderPuzzle(p)
		spoilClues(harder.Clues)
		if !samePuzzle(p, before) {
			t.Fatalf("%s has become %s", puzzleName(before), puzzleName(p))
		}
		if !slices.Equal(behind, []impl.Clue{{Kind: 2, A: 7, B: 2}, {Kind: 77, A: 78, B: 79}}) {
			t.Fatalf("what is behind %s has become %+v", puzzleName(before), behind)
		}
	}
}

// What is behind the clues is not read: a puzzle with 6 clues and more behind them is one with 6.
func TestRoomBehindCluesIsNotRead(t *testing.T) {
	f := futures{}
	for _, before := range samplePuzzles(f) {
		p, _ := roomyPuzzle(before)
		wantSolutions(t, p, f.solutions(shapeOf(before), before.Clues...)...)
		text, ok := impl.PuzzleText(p)
		wantText(t, "PuzzleText", text, ok, puzzleName(before), true)
	}
}

// Nothing is kept between calls, also not behind a clue that was none.
func TestPuzzlesAreTheSameInEachCall(t *testing.T) {
	f := futures{}
	p := puzzleOf("LRN:1x4:0.2.1,2.9.1,4.3.0,3.5.2")
	for range 5 {
		wantSolutions(t, p, f.solutions(shapeOf(p), p.Clues...)...)
		wantZero(t, "a clue that is none", solveResults(puzzleOf("LRN:1x4:0.2.1,2.9.4")))
		if impl.IsClue("LRN", 4, impl.Clue{Kind: 7}) || !impl.IsClue("LRN", 4, impl.Clue{Kind: 3, B: 4}) {
			t.Error("IsClue is another one")
		}
		wantCounts(t, f, p)
		wantHarder(t, f, p)
		wantMade(t, f, hiddenOf("LRN", 1, 4, "0121"), 77)
	}
}
