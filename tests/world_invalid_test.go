package tests

import (
	"math"
	"strings"
	"testing"

	"loop.example/g01276/impl"
)

// These are tests of the promise that every function accepts all arguments: invalid ones give zero values.

func invalidRules() []string {
	return []string{"", "LRLRLRL", "l", "lr", "LX", "XL", "L R", "LR ", "0", "L\x00", "L\xff", "\u216c", "LRé", ":", strings.Repeat("L", 100000)}
}

func invalidWorlds() []impl.World {
	worlds := []impl.World{{}}
	change := func(f func(w *impl.World)) {
		w := impl.World{Rule: "LRU", Width: 3, Height: 2, Cells: "012012", X: 2, Y: 1, Way: 3}
		f(&w)
		worlds = append(worlds, w)
	}
	for _, rule := range invalidRules() {
		change(func(w *impl.World) { w.Rule = rule })
	}
	change(func(w *impl.World) { w.Rule = "LR" }) // the cells have a third colour
	for _, cells := range []string{"", "01201", "0120120", "012013", "312012", "01201/", "01201:", "01201-", "0120 2", "01201\xff", strings.Repeat("0", 100000)} {
		change(func(w *impl.World) { w.Cells = cells })
	}
	for _, n := range []int{0, -1, -3, 10, 2, 1 << 32, math.MaxInt, math.MinInt} {
		change(func(w *impl.World) { w.Width = n })
	}
	for _, n := range []int{0, -1, -2, 10, 3, 1 << 32, math.MaxInt, math.MinInt} {
		change(func(w *impl.World) { w.Height = n })
	}
	for _, n := range []int{-1, 3, math.MaxInt, math.MinInt} {
		change(func(w *impl.World) { w.X = n })
	}
	for _, n := range []int{-1, 2, math.MaxInt, math.MinInt} {
		change(func(w *impl.World) { w.Y = n })
	}
	for _, n := range []int{-1, 4, math.MaxInt, math.MinInt} {
		change(func(w *impl.World) { w.Way = n })
	}
	return append(worlds,
		impl.World{Rule: "LR", Width: 10, Height: 1, Cells: "0000000000"},
		impl.World{Rule: "LR", Width: 1, Height: 10, Cells: "0000000000"},
		impl.World{Rule: "LR", Width: -1, Height: -1, Cells: "0"},
		impl.World{Rule: "LR", Width: 0, Height: 0},
		impl.World{Rule: "LR", Width: 1 << 32, Height: 1 << 32},
	)
}

// numberResults calls each function of a world and of numbers and tells, by name, whether all is zero.
func numberResults(w impl.World, a, b, c int) map[string]bool {
	zero := map[string]bool{}
	world := func(name string, got impl.World, ok bool) { zero[name] = got == impl.World{} && !ok }
	got, ok := impl.WorldAfter(w, a)
	world("WorldAfter", got, ok)
	got, ok = impl.WorldBefore(w, a)
	world("WorldBefore", got, ok)
	got, ok = impl.PaintCell(w, a, b, c)
	world("PaintCell", got, ok)
	got, ok = impl.PlaceAnt(w, a, b, c)
	world("PlaceAnt", got, ok)
	got, ok = impl.ShiftWorld(w, a, b)
	world("ShiftWorld", got, ok)
	colour, ok := impl.ColourAt(w, a, b)
	zero["ColourAt"] = colour == 0 && !ok
	turns, ok := impl.TurnsAfter(w, a)
	zero["TurnsAfter"] = turns == "" && !ok
	return zero
}

// worldResults does so for the functions of a world alone.
func worldResults(w impl.World) map[string]bool {
	zero := map[string]bool{}
	for name, f := range map[string]func(impl.World) (impl.World, bool){
		"StepWorld": impl.StepWorld, "StepBack": impl.StepBack, "TurnWorld": impl.TurnWorld,
		"MirrorWorld": impl.MirrorWorld, "BackWorld": impl.BackWorld,
	} {
		got, ok := f(w)
		zero[name] = got == impl.World{} && !ok
	}
	counts, ok := impl.CountColours(w)
	zero["CountColours"] = len(counts) == 0 && !ok
	text, ok := impl.WorldText(w)
	zero["WorldText"] = text == "" && !ok
	return zero
}

func TestInvalidWorldsGiveZeroValues(t *testing.T) {
	for _, w := range invalidWorlds() {
		for name, zero := range worldResults(w) {
			if !zero {
				t.Errorf("%s of %+v is not zero", name, w)
			}
		}
		for name, zero := range numberResults(w, 0, 0, 0) {
			if !zero {
				t.Errorf("%s of %+v and 0 is not zero", name, w)
			}
		}
	}
}

func TestInvalidNumbersGiveZeroValues(t *testing.T) {
	w := impl.World{Rule: "LRU", Width: 3, Height: 2, Cells: "012012", X: 2, Y: 1, Way: 3}
	for _, n := range []int{-1, math.MinInt, impl.MaxSteps + 1, 1 << 32, math.MaxInt} {
		for name, zero := range numberResults(w, n, 0, 0) {
			if !zero {
				t.Errorf("%s of %d is not zero", name, n)
			}
		}
		checkNumbers(t, w, 0, n, 0)
		checkColourAndWay(t, w, n)
	}
	checkNumbers(t, w, 3, 0, 0)
	checkNumbers(t, w, 0, 2, 0)
	if v, ok := impl.PaintCell(w, 0, 0, 3); ok || v != (impl.World{}) {
		t.Errorf("PaintCell with the colour 3 is %+v, %v", v, ok)
	}
	if v, ok := impl.PlaceAnt(w, 0, 0, 4); ok || v != (impl.World{}) {
		t.Errorf("PlaceAnt with the way 4 is %+v, %v", v, ok)
	}
}

// checkNumbers checks the functions that ask for a cell.
func checkNumbers(t *testing.T, w impl.World, a, b, c int) {
	t.Helper()
	got := numberResults(w, a, b, c)
	for _, name := range []string{"PaintCell", "PlaceAnt", "ShiftWorld", "ColourAt"} {
		if !got[name] {
			t.Errorf("%s of %d, %d is not zero", name, a, b)
		}
	}
}

// checkColourAndWay checks the functions that ask for a colour or a way.
func checkColourAndWay(t *testing.T, w impl.World, n int) {
	t.Helper()
	got := numberResults(w, 0, 0, n)
	if !got["PaintCell"] || !got["PlaceAnt"] {
		t.Errorf("PaintCell or PlaceAnt with %d is not zero", n)
	}
}

func TestLimitsOfNumbersAreMetExactly(t *testing.T) {
	w := impl.World{Rule: "LRU", Width: 3, Height: 2, Cells: "012012", X: 2, Y: 1, Way: 3}
	for name, zero := range numberResults(w, 2, 1, 2) {
		if zero {
			t.Errorf("%s of 2, 1, 2 is zero", name)
		}
	}
	if _, ok := impl.PlaceAnt(w, 2, 1, 3); !ok {
		t.Error("PlaceAnt with the way 3 fails")
	}
	if _, ok := impl.WorldAfter(w, impl.MaxSteps); !ok {
		t.Error("WorldAfter the most steps fails")
	}
	if _, ok := impl.WorldBefore(w, impl.MaxSteps); !ok {
		t.Error("WorldBefore the most steps fails")
	}
}

func TestInvalidRulesAndSizesGiveZeroValues(t *testing.T) {
	for _, rule := range invalidRules() {
		if w, ok := impl.EmptyWorld(rule, 3, 2); ok || w != (impl.World{}) {
			t.Errorf("EmptyWorld of %q is %+v, %v", rule, w, ok)
		}
		if other, ok := impl.OtherRule(rule); ok || other != "" {
			t.Errorf("OtherRule of %q is %q, %v", rule, other, ok)
		}
	}
	for _, n := range []int{0, -1, 10, 1 << 32, math.MaxInt, math.MinInt} {
		for _, size := range [][2]int{{n, 1}, {1, n}, {n, n}} {
			if w, ok := impl.EmptyWorld("LR", size[0], size[1]); ok || w != (impl.World{}) {
				t.Errorf("EmptyWorld of %v is %+v, %v", size, w, ok)
			}
		}
	}
}

func TestArgumentsAreNotModified(t *testing.T) {
	for _, w := range sampleWorlds() {
		before, cells := w, strings.Clone(w.Cells)
		worldResults(w)
		numberResults(w, 0, 0, 0)
		if w != before || w.Cells != cells {
			t.Errorf("%+v has become %+v", before, w)
		}
	}
}
