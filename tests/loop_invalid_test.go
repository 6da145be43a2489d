package tests

import (
	"math"
	"strings"
	"testing"

	"loop.example/g01276/impl"
)

// These are tests of the promise that every function accepts all arguments, for loops: invalid ones give zero values.

// loopResults calls each function of a world alone and tells, by name, whether all is zero.
func loopResults(w impl.World) map[string]bool {
	zero := map[string]bool{}
	for name, f := range map[string]func(impl.World) (int, bool){
		"PeriodOf": impl.PeriodOf, "AntPeriod": impl.AntPeriod, "FirstReturn": impl.FirstReturn,
		"CoverSteps": impl.CoverSteps, "ColourSum": impl.ColourSum,
	} {
		n, ok := f(w)
		zero[name] = n == 0 && !ok
	}
	never, ok := impl.NeverVisited(w)
	zero["NeverVisited"] = len(never) == 0 && !ok
	return zero
}

// visitResults does so for the functions of a world and of a number of steps.
func visitResults(w impl.World, steps int) map[string]bool {
	zero := map[string]bool{}
	visits, ok := impl.VisitsAfter(w, steps)
	zero["VisitsAfter"] = len(visits) == 0 && !ok
	track, ok := impl.TrackAfter(w, steps)
	zero["TrackAfter"] = len(track) == 0 && !ok
	n, ok := impl.CellsVisited(w, steps)
	zero["CellsVisited"] = n == 0 && !ok
	n, ok = impl.MostVisited(w, steps)
	zero["MostVisited"] = n == 0 && !ok
	return zero
}

func TestInvalidWorldsHaveNoLoops(t *testing.T) {
	valid := impl.World{Rule: "LRU", Width: 3, Height: 2, Cells: "012012", X: 2, Y: 1, Way: 3}
	for _, w := range invalidWorlds() {
		wantZero(t, "an invalid world of the rule "+w.Rule, loopResults(w))
		wantZero(t, "an invalid world of the rule "+w.Rule, visitResults(w, 1))
		for _, pair := range [][2]impl.World{{w, valid}, {valid, w}, {w, w}} {
			n, ok := impl.StepsBetween(pair[0], pair[1])
			wantNumber(t, "StepsBetween with an invalid world", n, ok, 0, false)
		}
	}
}

func TestInvalidStepsHaveNoVisits(t *testing.T) {
	for _, w := range []impl.World{
		{Rule: "LRU", Width: 3, Height: 2, Cells: "012012", X: 2, Y: 1, Way: 3},
		{Rule: "N", Width: 1, Height: 1, Cells: "0"},
	} {
		for _, steps := range []int{-1, math.MinInt, impl.MaxSteps + 1, 1 << 32, math.MaxInt} {
			wantZero(t, "wrong steps", visitResults(w, steps))
		}
		wantZero(t, "more steps than those of a track", visitResults(w, impl.MaxTrack+1), "TrackAfter")
		wantZero(t, "more steps than those of a track", visitResults(w, impl.MaxSteps), "TrackAfter")
		wantZero(t, "no steps", visitResults(w, 0), "MostVisited")
	}
}

func TestLimitsOfVisitsAreMetExactly(t *testing.T) {
	w := impl.World{Rule: "LRU", Width: 3, Height: 2, Cells: "012012", X: 2, Y: 1, Way: 3}
	for _, steps := range []int{0, impl.MaxTrack, impl.MaxTrack + 1, impl.MaxSteps} {
		for name, zero := range visitResults(w, steps) {
			if want := name == "MostVisited" && steps == 0 || name == "TrackAfter" && steps > impl.MaxTrack; zero != want {
				t.Errorf("%s of %d steps is zero: %v", name, steps, zero)
			}
		}
	}
}

func TestInvalidRulesAndSizesHaveNoLoops(t *testing.T) {
	for _, rule := range invalidRules() {
		noLoops(t, rule, 1, 1)
	}
	for _, n := range []int{0, -1, -2, 10, 1 << 32, 1 << 62, math.MaxInt, math.MinInt} {
		for _, size := range [][2]int{{n, 1}, {1, n}, {n, n}, {n, -n}} {
			noLoops(t, "L", size[0], size[1])
			noLoops(t, "LR", size[0], size[1])
		}
	}
}

func TestArgumentsOfLoopsAreNotModified(t *testing.T) {
	for _, w := range smallWorlds() {
		before, cells := w, strings.Clone(w.Cells)
		loopResults(w)
		visitResults(w, 150)
		impl.StepsBetween(w, w)
		if w != before || w.Cells != cells {
			t.Errorf("%+v has become %+v", before, w)
		}
	}
}

// Nothing is kept between calls, and no result depends on the order of a map.
func TestLoopsAreTheSameInEachCall(t *testing.T) {
	first, ok := impl.LoopLengths("LRN", 2, 2)
	if !ok || len(first) < 2 {
		t.Fatalf("LoopLengths is %v, %v", first, ok)
	}
	for range 20 {
		again, ok := impl.LoopLengths("LRN", 2, 2)
		wantRows(t, "LoopLengths again", again, ok, first)
		n, ok := impl.LongestLoop("LRN", 2, 2)
		wantNumber(t, "LongestLoop again", n, ok, first[len(first)-1][0], true)
	}
}
