package tests

import (
	"math"
	"slices"
	"testing"

	"loop.example/g01276/impl"
)

// These are tests of the promise that every function accepts all arguments, for plains: invalid ones give zero values.

// limitPlains returns plains that meet the limits exactly.
func limitPlains() []impl.Plain {
	return []impl.Plain{
		{Rule: "L", X: 1000, Y: 1000, Way: 3},
		{Rule: "LRNULR", X: -1000, Y: -1000},
		{Rule: "LRNULR", Spots: []impl.Spot{{X: -1000, Y: -1000, Colour: 5}, {X: 1000, Y: -1000, Colour: 1}, {X: -1000, Y: 1000, Colour: 1}, {X: 1000, Y: 1000, Colour: 5}}},
		fullPlain("LR", impl.MaxSpots),
	}
}

func invalidPlains() []impl.Plain {
	plains := []impl.Plain{{}, fullPlain("LR", impl.MaxSpots+1), fullPlain("L", 1)}
	change := func(f func(p *impl.Plain)) {
		p := impl.Plain{Rule: "LRU", Spots: []impl.Spot{{X: 3, Y: -1, Colour: 2}, {X: -2, Y: 4, Colour: 1}, {X: 0, Y: 4, Colour: 1}}, X: 5, Y: 6, Way: 1}
		f(&p)
		plains = append(plains, p)
	}
	for _, rule := range invalidRules() {
		change(func(p *impl.Plain) { p.Rule = rule })
		change(func(p *impl.Plain) { p.Rule, p.Spots = rule, nil })
	}
	change(func(p *impl.Plain) { p.Rule = "LR" }) // a spot has a third colour
	for _, n := range []int{-1001, 1001, 1 << 32, math.MaxInt, math.MinInt} {
		change(func(p *impl.Plain) { p.X = n })
		change(func(p *impl.Plain) { p.Y = n })
		change(func(p *impl.Plain) { p.Spots = []impl.Spot{{X: n, Y: 0, Colour: 1}} })
		change(func(p *impl.Plain) { p.Spots = []impl.Spot{{X: 0, Y: n, Colour: 1}} })
	}
	for _, n := range []int{-1, 4, 1 << 32, math.MaxInt, math.MinInt} {
		change(func(p *impl.Plain) { p.Way = n })
	}
	for _, n := range []int{0, -1, 3, 1 << 32, math.MaxInt, math.MinInt} {
		for i := range 3 {
			change(func(p *impl.Plain) { p.Spots[i].Colour = n })
		}
	}
	change(func(p *impl.Plain) { p.Spots[0], p.Spots[1] = p.Spots[1], p.Spots[0] })
	change(func(p *impl.Plain) { p.Spots[1], p.Spots[2] = p.Spots[2], p.Spots[1] })
	change(func(p *impl.Plain) { p.Spots[2] = p.Spots[1] })
	change(func(p *impl.Plain) { p.Spots[2].X = -2; p.Spots[2].Colour = 2 }) // two colours in one cell
	// These are ordered by X, then by Y.
	change(func(p *impl.Plain) {
		p.Spots = []impl.Spot{{X: 0, Y: 1, Colour: 1}, {X: 1, Y: 0, Colour: 1}}
	})
	return plains
}

// plainResults calls each function of a plain alone and tells, by name, whether all is zero.
func plainResults(p impl.Plain) map[string]bool {
	zero := map[string]bool{}
	for name, f := range map[string]func(impl.Plain) (impl.Plain, bool){
		"StepPlain": impl.StepPlain, "TurnPlain": impl.TurnPlain, "MirrorPlain": impl.MirrorPlain,
	} {
		got, ok := f(p)
		zero[name] = isZeroPlain(got) && !ok
	}
	box, ok := impl.BoxOfPlain(p)
	zero["BoxOfPlain"] = len(box) == 0 && !ok
	picture, ok := impl.PictureOf(p)
	zero["PictureOf"] = picture == "" && !ok
	return zero
}

// stepResults does so for the functions of a plain and of numbers of steps.
func stepResults(p impl.Plain, steps, period int) map[string]bool {
	zero := map[string]bool{}
	after, ok := impl.PlainAfter(p, steps)
	zero["PlainAfter"] = isZeroPlain(after) && !ok
	before, ok := impl.PlainBefore(p, steps)
	zero["PlainBefore"] = isZeroPlain(before) && !ok
	turns, ok := impl.TurnsOfPlain(p, steps)
	zero["TurnsOfPlain"] = turns == "" && !ok
	right, down, ok := impl.DriftOf(p, steps, period)
	zero["DriftOf"] = right == 0 && down == 0 && !ok
	is, ok := impl.IsHighway(p, steps, period)
	zero["IsHighway"] = !is && !ok
	return zero
}

// cellResults does so for the functions of a plain and of a cell.
func cellResults(p impl.Plain, x, y, colour int) map[string]bool {
	zero := map[string]bool{}
	got, ok := impl.ColourOfSpot(p, x, y)
	zero["ColourOfSpot"] = got == 0 && !ok
	painted, ok := impl.PaintSpot(p, x, y, colour)
	zero["PaintSpot"] = isZeroPlain(painted) && !ok
	moved, ok := impl.MovePlain(p, x, y)
	zero["MovePlain"] = isZeroPlain(moved) && !ok
	return zero
}

// wantZero checks results by their names, of all functions or of those that are named.
func wantZero(t *testing.T, what string, zero map[string]bool, names ...string) {
	t.Helper()
	for name, is := range zero {
		if !is && (len(names) == 0 || slices.Contains(names, name)) {
			t.Errorf("%s of %s is not zero", name, what)
		}
	}
}

func TestInvalidPlainsGiveZeroValues(t *testing.T) {
	for _, p := range invalidPlains() {
		what := "an invalid plain of the rule " + p.Rule
		wantZero(t, what, plainResults(p))
		wantZero(t, what, stepResults(p, 0, 0))
		wantZero(t, what, stepResults(p, 0, 1))
		wantZero(t, what, cellResults(p, 0, 0, 0))
	}
}

func TestInvalidNumbersOfPlainsGiveZeroValues(t *testing.T) {
	p := impl.Plain{Rule: "LRU", Spots: []impl.Spot{{X: 3, Y: -1, Colour: 2}}}
	for _, n := range []int{-1, 1001, 1 << 32, 1 << 62, math.MaxInt, math.MaxInt / 3, math.MinInt, math.MinInt / 3} {
		wantZero(t, "wrong steps", stepResults(p, n, 1))
		wantZero(t, "a wrong period", stepResults(p, 1, n), "DriftOf", "IsHighway")
		wantZero(t, "two wrong numbers", stepResults(p, n, n))
		wantZero(t, "two wrong numbers", stepResults(p, n, -n))
	}
	for _, n := range []int{-1001, 1001, 1 << 32, math.MaxInt, math.MinInt} {
		wantZero(t, "a wrong x", cellResults(p, n, 0, 0))
		wantZero(t, "a wrong y", cellResults(p, 0, n, 0))
	}
	for _, n := range []int{-1, 3, 1 << 32, math.MaxInt, math.MinInt} {
		wantZero(t, "a wrong colour", cellResults(p, 0, 0, n), "PaintSpot")
	}
}

func TestLimitsOfNumbersOfPlainsAreMetExactly(t *testing.T) {
	p := impl.Plain{Rule: "LRU", X: 1}
	q := impl.Plain{Rule: "L"}
	for name, zero := range stepResults(q, 997, 1) {
		if zero {
			t.Errorf("%s of 997, 1 is zero", name)
		}
	}
	if _, ok := impl.PlainAfter(q, impl.MaxGoing); !ok {
		t.Error("PlainAfter the most steps fails")
	}
	if _, ok := impl.PlainBefore(q, impl.MaxGoing); !ok {
		t.Error("PlainBefore the most steps fails")
	}
	for _, far := range []int{-1000, 1000} {
		if _, ok := impl.ColourOfSpot(p, far, -far); !ok {
			t.Errorf("ColourOfSpot of %d, %d fails", far, -far)
		}
		if got, ok := impl.PaintSpot(p, far, -far, 2); !ok || !slices.Equal(got.Spots, []impl.Spot{{X: far, Y: -far, Colour: 2}}) {
			t.Errorf("PaintSpot of %d, %d, 2 is %+v, %v", far, -far, got, ok)
		}
		if got, ok := impl.MovePlain(impl.Plain{Rule: "L"}, far, -far); !ok || got.X != far || got.Y != -far {
			t.Errorf("MovePlain by %d, %d is %+v, %v", far, -far, got, ok)
		}
	}
}

func TestInvalidRulesGiveNoPlain(t *testing.T) {
	for _, rule := range invalidRules() {
		p, ok := impl.FirstPlain(rule)
		wantNoPlain(t, "FirstPlain of an invalid rule", p, ok)
	}
}

func TestInvalidWorldsGiveNoPlain(t *testing.T) {
	for _, w := range invalidWorlds() {
		p, ok := impl.PlainOfWorld(w)
		wantNoPlain(t, "PlainOfWorld of an invalid world", p, ok)
	}
}

// An ant that leaves the size leads to no plain, though it may come back.
func TestAnAntThatLeavesTheSizeFails(t *testing.T) {
	for way, at := range [][2]int{{0, -1000}, {1000, 0}, {0, 1000}, {-1000, 0}} {
		out := impl.Plain{Rule: "N", X: at[0], Y: at[1], Way: way}
		wantZero(t, "an ant that goes out", stepResults(out, 1, 0), "PlainAfter", "TurnsOfPlain", "DriftOf")
		wantZero(t, "an ant that goes out", stepResults(out, 0, 1), "DriftOf", "IsHighway")
		wantZero(t, "an ant that goes out", stepResults(out, 2, 2), "PlainAfter", "TurnsOfPlain", "DriftOf", "IsHighway")
		next, ok := impl.StepPlain(out)
		wantNoPlain(t, "StepPlain out", next, ok)

		came := impl.Plain{Rule: "N", X: at[0], Y: at[1], Way: (way + 2) % 4}
		before, ok := impl.PlainBefore(came, 1)
		wantNoPlain(t, "PlainBefore from outside", before, ok)

		again := impl.Plain{Rule: "U", X: at[0], Y: at[1], Way: (way + 2) % 4}
		if _, back := walked(again, 2); back.X != at[0] || back.Y != at[1] {
			t.Fatal("this ant does not come back")
		}
		for steps := 1; steps <= 4; steps++ {
			wantZero(t, "an ant that goes out and back", stepResults(again, steps, 1))
		}
	}
}

func TestAnAntMayMeetTheSize(t *testing.T) {
	for way, want := range [][2]int{{0, -1000}, {1000, 0}, {0, 1000}, {-1000, 0}} {
		p := impl.Plain{Rule: "N", Way: way}
		after, ok := impl.PlainAfter(p, 1000)
		wantPlain(t, "PlainAfter 1000", after, ok, impl.Plain{Rule: "N", X: want[0], Y: want[1], Way: way})
		back, ok := impl.PlainBefore(after, 1000)
		wantPlain(t, "PlainBefore 1000", back, ok, p)
		if right, down, ok := impl.DriftOf(p, 0, 1000); right != want[0] || down != want[1] || !ok {
			t.Errorf("DriftOf 0 1000 is %d %d, %v", right, down, ok)
		}
		if turns, ok := impl.TurnsOfPlain(p, 1000); len(turns) != 1000 || !ok {
			t.Errorf("TurnsOfPlain 1000 has %d signs, %v", len(turns), ok)
		}
		p.X, p.Y = want[0]/1000, want[1]/1000
		wantZero(t, "a step too many", stepResults(p, 1000, 0), "PlainAfter", "TurnsOfPlain", "DriftOf")
		if is, ok := impl.IsHighway(impl.Plain{Rule: "N", X: want[0] / 1000 * 997, Y: want[1] / 1000 * 997, Way: way}, 0, 1); !is || !ok {
			t.Errorf("IsHighway up to the size is %v, %v", is, ok)
		}
		if is, ok := impl.IsHighway(impl.Plain{Rule: "N", X: want[0] / 1000 * 998, Y: want[1] / 1000 * 998, Way: way}, 0, 1); is || ok {
			t.Errorf("IsHighway beyond the size is %v, %v", is, ok)
		}
	}
}

// antAt returns a plain with the ant in a cell, with a way.
func antAt(p impl.Plain, x, y, way int) impl.Plain {
	p.X, p.Y, p.Way = x, y, way
	return p
}

func TestSpotsMayMeetTheMost(t *testing.T) {
	p := antAt(fullPlain("LR", impl.MaxSpots-1), 100, 100, 0)
	next, ok := impl.StepPlain(p)
	if !ok || len(next.Spots) != impl.MaxSpots {
		t.Errorf("StepPlain to the most spots has %d, %v", len(next.Spots), ok)
	}
	back, ok := impl.PlainBefore(next, 1)
	wantPlain(t, "PlainBefore of the most spots", back, ok, p)
	painted, ok := impl.PaintSpot(p, 200, 200, 1)
	if !ok || len(painted.Spots) != impl.MaxSpots {
		t.Errorf("PaintSpot to the most spots has %d, %v", len(painted.Spots), ok)
	}
}

func TestTooManySpotsFail(t *testing.T) {
	full := fullPlain("LR", impl.MaxSpots)
	// The step makes a spot more; in the next one the ant is on a spot, which is none then.
	p := antAt(full, -16, 0, 2)
	if _, behind := walked(p, 2); len(behind.Spots) != impl.MaxSpots {
		t.Fatal("behind two steps there are", len(behind.Spots), "spots")
	}
	for steps := 1; steps <= 3; steps++ {
		wantZero(t, "a spot too many", stepResults(p, steps, 1), "PlainAfter", "TurnsOfPlain", "DriftOf", "IsHighway")
	}
	next, ok := impl.StepPlain(p)
	wantNoPlain(t, "StepPlain with a spot too many", next, ok)
	// Before the last step, the cell was a spot too many.
	before, ok := impl.PlainBefore(antAt(full, 100, 100, 0), 1)
	wantNoPlain(t, "PlainBefore with a spot too many", before, ok)

	painted, ok := impl.PaintSpot(full, 100, 100, 1)
	wantNoPlain(t, "PaintSpot with a spot too many", painted, ok)
	same, ok := impl.PaintSpot(full, -15, -5, 1)
	wantPlain(t, "PaintSpot of a spot there is", same, ok, full)
	same, ok = impl.PaintSpot(full, 100, 100, 0)
	wantPlain(t, "PaintSpot of a cell with 0", same, ok, full)
	fewer, ok := impl.PaintSpot(full, -15, -5, 0)
	wantPlain(t, "PaintSpot of a spot with 0", fewer, ok, impl.Plain{Rule: "LR", Spots: full.Spots[1:]})
	next, ok = impl.StepPlain(full)
	if !ok || len(next.Spots) != impl.MaxSpots-1 {
		t.Errorf("StepPlain on a spot leads to %d, %v", len(next.Spots), ok)
	}
	for name, zero := range cellResults(full, 0, 0, 0) {
		if zero {
			t.Errorf("%s of the most spots is zero", name)
		}
	}
	for name, zero := range plainResults(full) {
		if zero {
			t.Errorf("%s of the most spots is zero", name)
		}
	}
}

// allPlains calls each function that returns a plain for one, in a way in which all of them succeed.
func allPlains(p impl.Plain) map[string]impl.Plain {
	plains := map[string]impl.Plain{}
	plains["StepPlain"], _ = impl.StepPlain(p)
	plains["PlainAfter 0"], _ = impl.PlainAfter(p, 0)
	plains["PlainAfter"], _ = impl.PlainAfter(p, 7)
	plains["PlainBefore 0"], _ = impl.PlainBefore(p, 0)
	plains["PlainBefore"], _ = impl.PlainBefore(p, 7)
	plains["PaintSpot"], _ = impl.PaintSpot(p, 50, 50, 1)
	plains["PaintSpot, the same"], _ = impl.PaintSpot(p, p.Spots[0].X, p.Spots[0].Y, p.Spots[0].Colour)
	plains["MovePlain"], _ = impl.MovePlain(p, 1, 1)
	plains["MovePlain 0"], _ = impl.MovePlain(p, 0, 0)
	plains["TurnPlain"], _ = impl.TurnPlain(p)
	plains["MirrorPlain"], _ = impl.MirrorPlain(p)
	return plains
}

func TestPlainsAreNotModified(t *testing.T) {
	for _, p := range samplePlains() {
		// The room behind the spots is not touched either.
		room := append(slices.Clone(p.Spots), impl.Spot{X: 7, Y: 8, Colour: 9}, impl.Spot{X: 10, Y: 11, Colour: 12})
		before := slices.Clone(room)
		q := p
		q.Spots = room[:len(p.Spots)]
		plainResults(q)
		stepResults(q, 7, 3)
		cellResults(q, 0, 0, 0)
		cellResults(q, 5, 5, 1)
		impl.IsPlain(q)
		if !slices.Equal(room, before) || !samePlain(p, q) {
			t.Errorf("%+v has become %+v", p, q)
		}
	}
}

func TestResultsShareNoMemoryWithPlains(t *testing.T) {
	for _, p := range samplePlains() {
		if len(p.Spots) == 0 {
			continue
		}
		before := slices.Clone(p.Spots)
		for name, got := range allPlains(p) {
			clear(got.Spots[:cap(got.Spots)])
			if !slices.Equal(p.Spots, before) {
				t.Errorf("the result of %s shares memory with %+v", name, p)
			}
		}
		first, _ := impl.BoxOfPlain(p)
		want := slices.Clone(first)
		clear(first)
		if second, _ := impl.BoxOfPlain(p); !slices.Equal(second, want) {
			t.Errorf("BoxOfPlain is kept: %v", second)
		}
	}
}
