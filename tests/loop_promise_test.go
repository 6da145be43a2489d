package tests

import (
	"maps"
	"slices"
	"strconv"
	"testing"

	"loop.example/g01276/impl"
)

// These are tests of the third promise: worlds come back after their period and not before.

// smallWorlds returns worlds of all numbers of colours, few of whose periods are beyond MaxLoop.
func smallWorlds() []impl.World {
	n := &numbers{last: 23}
	var worlds []impl.World
	for signs := 1; signs <= impl.MaxColours; signs++ {
		for _, size := range [][2]int{{1, 1}, {1, 2}, {2, 1}, {1, 3}, {2, 2}, {3, 1}, {3, 2}, {1, 9}} {
			for range 3 {
				worlds = append(worlds, n.someWorld(n.someRule(signs), size[0], size[1]))
			}
		}
	}
	return worlds
}

func TestWorldsComeBackAfterTheirPeriodAndNotBefore(t *testing.T) {
	found := 0
	for _, w := range append(sampleWorlds(), smallWorlds()...) {
		period, ok := impl.PeriodOf(w)
		want, fine := comesTo(w, 1, func(v impl.World) bool { return v == w })
		wantNumber(t, "PeriodOf", period, ok, want, fine)
		if !ok {
			continue
		}
		found++
		if period%len(w.Rule) != 0 {
			t.Errorf("the period %d of %+v leaves another sum of colours", period, w)
		}
		next, _ := impl.StepWorld(w)
		again, ok := impl.PeriodOf(next)
		wantNumber(t, "PeriodOf the world behind a step", again, ok, period, true)
		if period <= impl.MaxSteps {
			if back, ok := impl.WorldAfter(w, period); back != w || !ok {
				t.Errorf("behind its period %d, %+v is %+v", period, w, back)
			}
		}
	}
	if found < 100 {
		t.Errorf("only %d worlds have a period", found)
	}
}

func TestAntsComeBackToTheirCellsAndWays(t *testing.T) {
	for _, w := range append(sampleWorlds(), smallWorlds()...) {
		ant, ok := impl.AntPeriod(w)
		want, fine := comesTo(w, 1, func(v impl.World) bool { return v.X == w.X && v.Y == w.Y && v.Way == w.Way })
		wantNumber(t, "AntPeriod", ant, ok, want, fine)
		cell, ok := impl.FirstReturn(w)
		want, fine = comesTo(w, 1, func(v impl.World) bool { return v.X == w.X && v.Y == w.Y })
		wantNumber(t, "FirstReturn", cell, ok, want, fine)
	}
}

func TestVisitsAreThoseOfTheSteps(t *testing.T) {
	for _, w := range append(sampleWorlds(), smallWorlds()...) {
		for _, steps := range []int{0, 1, 2, 3, 7, 50, impl.MaxTrack - 1, impl.MaxTrack} {
			track, ok := impl.TrackAfter(w, steps)
			wantList(t, "TrackAfter", track, ok, plainTrack(w, steps)...)
		}
		for _, steps := range []int{0, 1, 2, 3, 7, 50, 777, impl.MaxSteps - 1, impl.MaxSteps} {
			want := plainVisits(w, steps)
			visits, ok := impl.VisitsAfter(w, steps)
			wantList(t, "VisitsAfter", visits, ok, want...)
			different := len(want) - len(slices.DeleteFunc(slices.Clone(want), func(often int) bool { return often > 0 }))
			n, ok := impl.CellsVisited(w, steps)
			wantNumber(t, "CellsVisited", n, ok, different, true)
			if steps == 0 {
				continue
			}
			most := 0
			for cell, often := range want {
				if often > want[most] {
					most = cell
				}
			}
			n, ok = impl.MostVisited(w, steps)
			wantNumber(t, "MostVisited", n, ok, most, true)
		}
	}
}

func TestCoversAreTheLeast(t *testing.T) {
	covered := 0
	for _, w := range append(sampleWorlds(), smallWorlds()...) {
		want, left := 0, map[int]bool{}
		for cell := range w.Cells {
			left[cell] = true
		}
		for steps, cell := range plainTrack(w, 4000) {
			delete(left, cell)
			if len(left) == 0 {
				want = steps + 1
				covered++
				break
			}
		}
		n, ok := impl.CoverSteps(w)
		wantNumber(t, "CoverSteps", n, ok, want, want > 0)
	}
	if covered < 30 {
		t.Errorf("only %d worlds are covered", covered)
	}
}

func TestCellsAreNeverVisitedInThePeriod(t *testing.T) {
	for _, w := range append(sampleWorlds(), smallWorlds()...) {
		period, fine := comesTo(w, 1, func(v impl.World) bool { return v == w })
		var want []int
		for cell, often := range plainVisits(w, period) {
			if often == 0 {
				want = append(want, cell)
			}
		}
		got, ok := impl.NeverVisited(w)
		if fine {
			wantList(t, "NeverVisited", got, ok, want...)
		} else if len(got) != 0 || ok {
			t.Errorf("NeverVisited of %+v is %v, %v; want none", w, got, ok)
		}
	}
}

func TestStepsBetweenGoAroundTheLoop(t *testing.T) {
	for _, w := range smallWorlds() {
		period, ok := impl.PeriodOf(w)
		if !ok {
			continue
		}
		for _, steps := range []int{0, 1, 2, 5, 100, impl.MaxSteps} {
			_, v := plainSteps(w, steps)
			n, ok := impl.StepsBetween(w, v)
			wantNumber(t, "StepsBetween", n, ok, steps%period, true)
			n, ok = impl.StepsBetween(v, w)
			wantNumber(t, "StepsBetween back", n, ok, (period-steps%period)%period, true)
		}
	}
}

func TestStepsBetweenAllWorldsOfASize(t *testing.T) {
	worlds := plainWorlds("LR", 3, 1)
	for i := 0; i < len(worlds); i += 5 {
		for _, v := range worlds {
			want, fine := comesTo(worlds[i], 0, func(u impl.World) bool { return u == v })
			n, ok := impl.StepsBetween(worlds[i], v)
			wantNumber(t, "StepsBetween", n, ok, want, fine)
		}
	}
}

func TestEachStepMakesTheColourSumGreaterByOneOrZero(t *testing.T) {
	for _, w := range append(sampleWorlds(), smallWorlds()...) {
		for range 20 {
			n, ok := impl.ColourSum(w)
			wantNumber(t, "ColourSum", n, ok, colourSum(w)%len(w.Rule), true)
			w, _ = impl.StepWorld(w)
			next, ok := impl.ColourSum(w)
			wantNumber(t, "ColourSum behind a step", next, ok, (n+1)%len(w.Rule), true)
		}
	}
}

// loopSizes visits rules of all numbers of colours, and all sizes of which they have few enough worlds.
func loopSizes(visit func(rule string, width, height int)) {
	n := &numbers{last: 5}
	rules := []string{"L", "R", "N", "U", "LR", "LL", "NU", "LRN", "LRNULR"}
	for signs := 1; signs <= impl.MaxColours; signs++ {
		rules = append(rules, n.someRule(signs))
	}
	for _, rule := range rules {
		for width := 1; width <= impl.MaxSide; width++ {
			for height := 1; height <= impl.MaxSide; height++ {
				if _, ok := plainCount(len(rule), width*height); ok {
					visit(rule, width, height)
				}
			}
		}
	}
}

func TestLoopsAreThoseOfTheSteps(t *testing.T) {
	loopSizes(func(rule string, width, height int) {
		what := " of " + rule + " " + strconv.Itoa(width) + "x" + strconv.Itoa(height)
		worlds := plainWorlds(rule, width, height)
		loops := plainLoops(worlds)
		lengths := slices.Sorted(maps.Keys(loops))
		var want [][]int
		count := 0
		for _, length := range lengths {
			want = append(want, []int{length, loops[length]})
			count += loops[length]
		}
		rows, ok := impl.LoopLengths(rule, width, height)
		wantRows(t, "LoopLengths"+what, rows, ok, want)
		n, ok := impl.CountWorlds(rule, width, height)
		wantNumber(t, "CountWorlds"+what, n, ok, len(worlds), true)
		n, ok = impl.CountLoops(rule, width, height)
		wantNumber(t, "CountLoops"+what, n, ok, count, true)
		n, ok = impl.LongestLoop(rule, width, height)
		wantNumber(t, "LongestLoop"+what, n, ok, slices.Max(lengths), true)
	})
}

// Each world is in a loop as long as its period.
func TestLoopsAreAsLongAsPeriods(t *testing.T) {
	for _, rule := range []string{"L", "LR", "NU", "LRN"} {
		worlds := plainWorlds(rule, 2, 2)
		held := map[int]int{}
		for _, w := range worlds {
			period, ok := impl.PeriodOf(w)
			if !ok {
				t.Fatalf("%+v has no period", w)
			}
			held[period]++
		}
		rows, ok := impl.LoopLengths(rule, 2, 2)
		if !ok || len(rows) != len(held) {
			t.Errorf("LoopLengths of %s is %v, %v", rule, rows, ok)
		}
		for _, row := range rows {
			if held[row[0]] != row[0]*row[1] {
				t.Errorf("%d worlds of %s have the period %d, but there are %d loops of it", held[row[0]], rule, row[0], row[1])
			}
		}
	}
}
