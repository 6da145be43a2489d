package tests

import (
	"slices"
	"strings"
	"testing"

	"loop.example/g01276/impl"
)

func TestExampleOfLoops(t *testing.T) {
	n, ok := impl.PeriodOf(read(t, "LR:1x1:0:0,0,0"))
	wantNumber(t, "PeriodOf one cell", n, ok, 2, true)
	n, ok = impl.PeriodOf(read(t, "L:2x2:0000:0,0,0"))
	wantNumber(t, "PeriodOf one colour", n, ok, 4, true)
	n, ok = impl.CountWorlds("L", 2, 2)
	wantNumber(t, "CountWorlds", n, ok, 16, true)
	n, ok = impl.CountLoops("L", 2, 2)
	wantNumber(t, "CountLoops", n, ok, 4, true)
	w := read(t, "LR:3x3:000000000:1,1,0")
	n, ok = impl.AntPeriod(w)
	wantNumber(t, "AntPeriod", n, ok, 4, true)
	n, ok = impl.CellsVisited(w, 4)
	wantNumber(t, "CellsVisited", n, ok, 4, true)
}

func TestLimitsOfLoopsAreConstants(t *testing.T) {
	if impl.MaxLoop != 4000 || impl.MaxTrack != 200 || impl.MaxWorlds != 3000 {
		t.Error(impl.MaxLoop, impl.MaxTrack, impl.MaxWorlds)
	}
}

// wantReturns checks the three functions that tell when a world or its ant comes back: 0 is never.
func wantReturns(t *testing.T, text string, period, ant, cell int) {
	t.Helper()
	w := read(t, text)
	n, ok := impl.PeriodOf(w)
	wantNumber(t, "PeriodOf "+text, n, ok, period, period > 0)
	n, ok = impl.AntPeriod(w)
	wantNumber(t, "AntPeriod of "+text, n, ok, ant, ant > 0)
	n, ok = impl.FirstReturn(w)
	wantNumber(t, "FirstReturn of "+text, n, ok, cell, cell > 0)
}

func TestReturnsInOneCell(t *testing.T) {
	wantReturns(t, "N:1x1:0:0,0,2", 1, 1, 1)
	wantReturns(t, "U:1x1:0:0,0,2", 2, 2, 1)
	wantReturns(t, "L:1x1:0:0,0,2", 4, 4, 1)
	wantReturns(t, "NN:1x1:1:0,0,0", 2, 1, 1)
	wantReturns(t, "RRR:1x1:2:0,0,0", 12, 4, 1)
	wantReturns(t, "LLR:1x1:0:0,0,1", 12, 8, 1)
	wantReturns(t, "LLR:1x1:1:0,0,1", 12, 2, 1)
	wantReturns(t, "LRNULR:1x1:0:0,0,0", 12, 2, 1)
}

func TestReturnsOfOneColour(t *testing.T) {
	wantReturns(t, "N:9x4:"+strings.Repeat("0", 36)+":3,3,1", 9, 9, 9)
	wantReturns(t, "N:9x4:"+strings.Repeat("0", 36)+":3,3,0", 4, 4, 4)
	wantReturns(t, "U:9x4:"+strings.Repeat("0", 36)+":3,3,0", 2, 2, 2)
	wantReturns(t, "R:9x4:"+strings.Repeat("0", 36)+":3,3,0", 4, 4, 4)
	wantReturns(t, "L:1x2:00:0,0,0", 4, 4, 1)
	wantReturns(t, "R:1x2:00:0,0,0", 4, 4, 1)
	wantReturns(t, "R:1x2:00:0,0,1", 4, 4, 3)
}

// The ant comes back to its cell with another way first, then with its way, and the world is the same much later.
func TestReturnsDiffer(t *testing.T) {
	wantReturns(t, "LR:3x3:000010000:1,1,2", 66, 52, 4)
	wantReturns(t, "LR:2x1:00:0,0,0", 4, 4, 3)
}

// The periods that are not found are 4002 and 4005, as they leave the sum of colours; the other returns would need 4001 steps.
func TestReturnsUpToTheMostSteps(t *testing.T) {
	for _, c := range []struct {
		name string
		f    func(impl.World) (int, bool)
		text string
		want int
	}{
		{"PeriodOf", impl.PeriodOf, "URRNL:3x2:034312:0,1,2", 4000},
		{"PeriodOf", impl.PeriodOf, "NRULL:2x3:044314:0,1,1", 4000},
		{"PeriodOf", impl.PeriodOf, "ULR:4x4:1112101112120211:0,1,0", 0},
		{"PeriodOf", impl.PeriodOf, "RRLNL:3x3:023030132:2,2,3", 0},
		{"AntPeriod", impl.AntPeriod, "RLUU:3x5:101212031121211:2,0,1", 4000},
		{"AntPeriod", impl.AntPeriod, "RLUU:3x5:012111200011113:2,2,1", 4000},
		{"AntPeriod", impl.AntPeriod, "ULLUL:5x8:2234323223301334410402302023131334330121:2,5,1", 0},
		{"AntPeriod", impl.AntPeriod, "LLLLU:7x7:4121204140442021244141333042212224132430144224024:0,1,1", 0},
		{"FirstReturn", impl.FirstReturn, "RUL:7x4:1210001100120210010210200100:0,2,3", 4000},
		{"FirstReturn", impl.FirstReturn, "URUUL:5x6:441301414341421200211241411001:3,3,0", 4000},
		{"FirstReturn", impl.FirstReturn, "ULUUL:5x6:240424213304033244322204442123:4,5,2", 0},
		{"FirstReturn", impl.FirstReturn, "LRU:7x8:11121221120101000001201111100201211111120111110011101110:5,4,1", 0},
	} {
		n, ok := c.f(read(t, c.text))
		wantNumber(t, c.name+" of "+c.text, n, ok, c.want, c.want > 0)
	}
}

func TestVisitsAfter(t *testing.T) {
	w := read(t, "LR:3x3:000000000:1,1,0")
	for steps, want := range map[int][]int{
		0: {0, 0, 0, 0, 0, 0, 0, 0, 0},
		1: {0, 0, 0, 0, 1, 0, 0, 0, 0},
		4: {0, 0, 0, 1, 1, 0, 1, 1, 0},
		6: {0, 0, 0, 1, 2, 1, 1, 1, 0},
	} {
		got, ok := impl.VisitsAfter(w, steps)
		wantList(t, "VisitsAfter", got, ok, want...)
	}
	got, ok := impl.VisitsAfter(read(t, "LR:1x1:1:0,0,3"), impl.MaxSteps)
	wantList(t, "VisitsAfter the most steps in one cell", got, ok, impl.MaxSteps)
	got, ok = impl.VisitsAfter(read(t, "N:2x3:000000:1,1,0"), impl.MaxSteps-1)
	wantList(t, "VisitsAfter one step less than the most", got, ok, 0, 1000, 0, 1000, 0, 999)
}

func TestTrackAfter(t *testing.T) {
	w := read(t, "LR:3x3:000000000:1,1,0")
	for steps, want := range map[int][]int{0: nil, 1: {4}, 4: {4, 3, 6, 7}, 6: {4, 3, 6, 7, 4, 5}} {
		got, ok := impl.TrackAfter(w, steps)
		wantList(t, "TrackAfter", got, ok, want...)
	}
	got, ok := impl.TrackAfter(read(t, "N:4x2:00000000:2,1,1"), 5)
	wantList(t, "TrackAfter around an edge", got, ok, 6, 7, 4, 5, 6)
	got, ok = impl.TrackAfter(read(t, "LR:1x1:1:0,0,3"), impl.MaxTrack)
	wantList(t, "TrackAfter the most steps", got, ok, make([]int, impl.MaxTrack)...)
}

func TestCellsVisited(t *testing.T) {
	w := read(t, "LR:3x3:000000000:1,1,0")
	for steps, want := range map[int]int{0: 0, 1: 1, 3: 3, 4: 4, 5: 4, 6: 5} {
		n, ok := impl.CellsVisited(w, steps)
		wantNumber(t, "CellsVisited", n, ok, want, true)
	}
	n, ok := impl.CellsVisited(read(t, "LR:1x1:0:0,0,0"), impl.MaxSteps)
	wantNumber(t, "CellsVisited of one cell", n, ok, 1, true)
	n, ok = impl.CellsVisited(read(t, "N:9x2:000000000000000000:1,1,3"), impl.MaxSteps)
	wantNumber(t, "CellsVisited of a row", n, ok, 9, true)
}

func TestCoverSteps(t *testing.T) {
	for text, want := range map[string]int{
		"LR:1x1:0:0,0,0":                                 1,
		"N:9x1:000000000:4,0,1":                          9,
		"N:1x9:000000000:0,4,0":                          9,
		"L:2x2:0000:0,0,0":                               4,
		"LR:2x1:00:0,0,0":                                2,
		"LR:1x2:00:0,0,0":                                3,
		"N:9x1:000000000:4,0,0":                          0, // it stays in its cell
		"N:3x3:000000000:1,1,0":                          0,
		"U:3x1:000:0,0,1":                                0,
		"ULR:4x8:21012022001112202110100022022222:0,2,0": 4000,
		"UULRL:8x9:204000343124330342102011044042244204302303124142122213420110112232004242:6,8,3": 4000,
		"ULRLU:8x6:213412241242403302001230020031031000044340133232:5,1,3":                         0, // it needs 4001
	} {
		n, ok := impl.CoverSteps(read(t, text))
		wantNumber(t, "CoverSteps of "+text, n, ok, want, want > 0)
	}
}

func TestMostVisited(t *testing.T) {
	w := read(t, "LR:3x3:000000000:1,1,0")
	for steps, want := range map[int]int{1: 4, 2: 3, 3: 3, 4: 3, 5: 4, 6: 4} {
		n, ok := impl.MostVisited(w, steps)
		wantNumber(t, "MostVisited", n, ok, want, true)
	}
	row := read(t, "N:9x2:000000000000000000:7,1,1")
	for steps, want := range map[int]int{1: 16, 2: 16, 3: 9, 9: 9, 10: 16, 12: 9, impl.MaxSteps: 9} {
		n, ok := impl.MostVisited(row, steps)
		wantNumber(t, "MostVisited of a row", n, ok, want, true)
	}
	n, ok := impl.MostVisited(read(t, "LR:1x1:0:0,0,0"), 1)
	wantNumber(t, "MostVisited of one cell", n, ok, 0, true)
}

func TestNeverVisited(t *testing.T) {
	for text, want := range map[string][]int{
		"LR:1x1:0:0,0,0":           nil,
		"L:2x2:0000:0,0,0":         nil,
		"N:3x3:000000000:1,1,0":    {0, 2, 3, 5, 6, 8},
		"N:3x3:000000000:1,1,1":    {0, 1, 2, 6, 7, 8},
		"R:3x3:000000000:0,0,0":    {2, 5, 6, 7, 8},
		"N:9x1:000000000:4,0,2":    {0, 1, 2, 3, 5, 6, 7, 8},
		"NRULL:2x3:044314:0,1,1":   nil,
		"LRNULR:1x1:5:0,0,3":       nil,
		"UUNN:1x9:000000000:0,0,0": nil,
	} {
		got, ok := impl.NeverVisited(read(t, text))
		wantList(t, "NeverVisited of "+text, got, ok, want...)
	}
}

// Where the period is not found, it is not known of any cell whether it is visited.
func TestNeverVisitedFailsWithoutAPeriod(t *testing.T) {
	for _, text := range []string{"ULR:4x4:1112101112120211:0,1,0", "RRLNL:3x3:023030132:2,2,3", "RUL:7x4:1210001100120210010210200100:0,2,3"} {
		got, ok := impl.NeverVisited(read(t, text))
		if len(got) != 0 || ok {
			t.Errorf("NeverVisited of %s is %v, %v; want none", text, got, ok)
		}
	}
}

func TestStepsBetween(t *testing.T) {
	for _, c := range []struct {
		from, to string
		want     int
	}{
		{"LR:3x3:000000000:1,1,0", "LR:3x3:000000000:1,1,0", 0},
		{"LR:3x3:000000000:1,1,0", "LR:3x3:000010000:0,1,3", 1},
		{"LR:3x3:000000000:1,1,0", "LR:3x3:000110110:1,1,0", 4},
		{"LR:1x1:0:0,0,0", "LR:1x1:1:0,0,3", 1},
		{"LR:1x1:1:0,0,3", "LR:1x1:0:0,0,0", 1},
		{"L:2x2:0000:0,0,0", "L:2x2:0000:0,1,3", -1},
		{"L:2x2:0000:0,0,0", "L:2x2:0000:1,0,3", 1},
		{"L:2x2:0000:1,0,3", "L:2x2:0000:0,0,0", 3},
		{"LR:1x1:0:0,0,0", "LR:1x1:0:0,0,1", -1},
		{"LR:1x1:0:0,0,0", "RL:1x1:0:0,0,0", -1},
		{"L:1x1:0:0,0,0", "LL:1x1:0:0,0,0", -1},
		{"N:3x2:000000:0,0,0", "N:2x3:000000:0,0,0", -1},
		{"N:3x2:000000:0,0,0", "N:3x3:000000000:0,0,0", -1},
	} {
		n, ok := impl.StepsBetween(read(t, c.from), read(t, c.to))
		wantNumber(t, "StepsBetween "+c.from+" and "+c.to, n, ok, max(c.want, 0), c.want >= 0)
	}
}

func TestStepsBetweenUpToTheMostSteps(t *testing.T) {
	// The periods are 4002 and 4005, so that the worlds behind 4001 steps come behind no fewer.
	for _, text := range []string{"ULR:4x4:1112101112120211:0,1,0", "RRLNL:3x3:023030132:2,2,3"} {
		w := read(t, text)
		for steps, want := range map[int]int{1: 1, 3999: 3999, 4000: 4000, 4001: 0} {
			_, v := plainSteps(w, steps)
			n, ok := impl.StepsBetween(w, v)
			wantNumber(t, "StepsBetween "+text+" and a later world", n, ok, want, want > 0)
		}
	}
}

func TestColourSum(t *testing.T) {
	for text, want := range map[string]int{
		"LR:1x1:0:0,0,0":                                   0,
		"LR:1x1:1:0,0,3":                                   1,
		"L:2x2:0000:0,0,0":                                 0,
		"LRU:3x2:012210:2,1,3":                             0,
		"LRU:3x2:012211:2,1,3":                             1,
		"LRNULR:3x2:555555:0,0,0":                          0,
		"LRNULR:3x2:555515:0,0,0":                          2,
		"LR:9x9:" + strings.Repeat("1", 81) + ":8,8,0":     1,
		"LRNUL:9x9:" + strings.Repeat("4", 81) + ":8,8,0":  4,
		"LRNULR:9x9:" + strings.Repeat("5", 81) + ":8,8,0": 3,
	} {
		n, ok := impl.ColourSum(read(t, text))
		wantNumber(t, "ColourSum of "+text, n, ok, want, true)
	}
}

// No rule and size have just the most worlds: the most that are counted are 2592.
func TestCountWorldsOfAllSizes(t *testing.T) {
	most := 0
	for colours := 1; colours <= impl.MaxColours; colours++ {
		rule := "LRNULR"[:colours]
		for width := 1; width <= impl.MaxSide; width++ {
			for height := 1; height <= impl.MaxSide; height++ {
				want, fine := plainCount(colours, width*height)
				if !fine {
					want = 0
				}
				n, ok := impl.CountWorlds(rule, width, height)
				wantNumber(t, "CountWorlds of "+rule, n, ok, want, fine)
				most = max(most, n)
			}
		}
	}
	if most != 2592 {
		t.Errorf("the most worlds are %d", most)
	}
	for _, c := range []struct {
		rule          string
		width, height int
		want          int
	}{{"LR", 2, 2, 256}, {"LRNULR", 3, 1, 2592}, {"LRNULR", 1, 1, 24}, {"L", 9, 9, 324}, {"LR", 1, 7, 0}, {"LR", 2, 3, 1536}, {"LRN", 2, 2, 1296}, {"LRNU", 2, 2, 0}} {
		n, ok := impl.CountWorlds(c.rule, c.width, c.height)
		wantNumber(t, "CountWorlds of "+c.rule, n, ok, c.want, c.want > 0)
	}
}

func TestLoopsOfOneCell(t *testing.T) {
	for rule, want := range map[string][][]int{
		"N":      {{1, 4}},
		"U":      {{2, 2}},
		"L":      {{4, 1}},
		"R":      {{4, 1}},
		"LR":     {{2, 4}},
		"LL":     {{4, 2}},
		"RRR":    {{12, 1}},
		"LRNULR": {{12, 2}},
		"LNNN":   {{16, 1}},
	} {
		got, ok := impl.LoopLengths(rule, 1, 1)
		wantRows(t, "LoopLengths of "+rule, got, ok, want)
	}
}

func TestLoopsOfOneColour(t *testing.T) {
	got, ok := impl.LoopLengths("N", 9, 4)
	wantRows(t, "LoopLengths of N", got, ok, [][]int{{4, 18}, {9, 8}})
	got, ok = impl.LoopLengths("N", 1, 9)
	wantRows(t, "LoopLengths of N in a column", got, ok, [][]int{{1, 18}, {9, 2}})
	got, ok = impl.LoopLengths("L", 2, 2)
	wantRows(t, "LoopLengths of L", got, ok, [][]int{{4, 4}})
	got, ok = impl.LoopLengths("U", 9, 9)
	wantRows(t, "LoopLengths of U", got, ok, [][]int{{2, 162}})
	n, ok := impl.LongestLoop("N", 9, 4)
	wantNumber(t, "LongestLoop of N", n, ok, 9, true)
	n, ok = impl.CountLoops("N", 9, 4)
	wantNumber(t, "CountLoops of N", n, ok, 26, true)
}

// noLoops checks that none of the functions of all worlds of a size has a result.
func noLoops(t *testing.T, rule string, width, height int) {
	t.Helper()
	n, ok := impl.CountWorlds(rule, width, height)
	wantNumber(t, "CountWorlds of none", n, ok, 0, false)
	n, ok = impl.CountLoops(rule, width, height)
	wantNumber(t, "CountLoops of none", n, ok, 0, false)
	n, ok = impl.LongestLoop(rule, width, height)
	wantNumber(t, "LongestLoop of none", n, ok, 0, false)
	rows, ok := impl.LoopLengths(rule, width, height)
	if len(rows) != 0 || ok {
		t.Errorf("LoopLengths of none is %v, %v", rows, ok)
	}
}

// The numbers of worlds of some of these sizes overflow to 0 or to little.
func TestTooManyWorldsHaveNoLoops(t *testing.T) {
	for _, c := range []struct {
		rule          string
		width, height int
	}{{"LR", 7, 1}, {"LRN", 5, 1}, {"LRNU", 2, 2}, {"LRNUL", 1, 4}, {"LRNULR", 4, 1}, {"LR", 8, 8}, {"LRNU", 4, 8}, {"LRNU", 9, 9}, {"LRN", 8, 5}, {"LRNULR", 9, 9}} {
		noLoops(t, c.rule, c.width, c.height)
	}
}

func TestResultsOfLoopsAreNewlyAllocated(t *testing.T) {
	w := read(t, "N:3x3:000000000:1,1,0")
	lists := map[string]func() ([]int, bool){
		"VisitsAfter":  func() ([]int, bool) { return impl.VisitsAfter(w, 7) },
		"TrackAfter":   func() ([]int, bool) { return impl.TrackAfter(w, 7) },
		"NeverVisited": func() ([]int, bool) { return impl.NeverVisited(w) },
	}
	for name, list := range lists {
		first, _ := list()
		want := slices.Clone(first)
		for i := range first {
			first[i] = -1
		}
		got, ok := list()
		wantList(t, name, got, ok, want...)
	}
}

func TestRowsOfLoopLengthsShareNoMemory(t *testing.T) {
	want := [][]int{{4, 18}, {9, 8}}
	first, ok := impl.LoopLengths("N", 9, 4)
	wantRows(t, "LoopLengths", first, ok, want)
	_ = append(first[0], -1, -1, -1)
	wantRows(t, "LoopLengths", first, ok, want)
	first[0][0], first[1][1] = -1, -1
	second, ok := impl.LoopLengths("N", 9, 4)
	wantRows(t, "LoopLengths again", second, ok, want)
}
