package tests

import (
	"slices"
	"strings"
	"testing"

	"loop.example/g01276/impl"
)

func TestExampleOfPlains(t *testing.T) {
	p, ok := impl.FirstPlain("LR")
	wantPlain(t, "FirstPlain", p, ok, impl.Plain{Rule: "LR"})
	after, ok := impl.PlainAfter(p, 4)
	wantPlain(t, "PlainAfter 4", after, ok, impl.Plain{Rule: "LR", Spots: []impl.Spot{
		{X: -1, Y: 0, Colour: 1}, {X: 0, Y: 0, Colour: 1}, {X: -1, Y: 1, Colour: 1}, {X: 0, Y: 1, Colour: 1},
	}})
	if turns, ok := impl.TurnsOfPlain(p, 6); turns != "LLLLRL" || !ok {
		t.Errorf("TurnsOfPlain 6 is %q, %v", turns, ok)
	}
	if box, ok := impl.BoxOfPlain(after); !slices.Equal(box, []int{-1, 0, 0, 1}) || !ok {
		t.Errorf("BoxOfPlain is %v, %v", box, ok)
	}
	if picture, ok := impl.PictureOf(after); picture != "11/11" || !ok {
		t.Errorf("PictureOf is %q, %v", picture, ok)
	}
}

func TestLimitsOfPlainsAreConstants(t *testing.T) {
	if impl.MaxFar != 1000 || impl.MaxSpots != 300 || impl.MaxGoing != 1000 {
		t.Error(impl.MaxFar, impl.MaxSpots, impl.MaxGoing)
	}
}

func TestIsPlain(t *testing.T) {
	for _, p := range append(samplePlains(), limitPlains()...) {
		if !impl.IsPlain(p) {
			t.Errorf("%+v is a plain", p)
		}
	}
	for _, p := range invalidPlains() {
		if impl.IsPlain(p) {
			t.Errorf("%+v is no plain", p)
		}
	}
}

func TestANilAndAnEmptySliceOfSpotsAreTheSame(t *testing.T) {
	p := impl.Plain{Rule: "LR", Spots: []impl.Spot{}, X: 2, Y: 3, Way: 1}
	next, ok := impl.StepPlain(p)
	wantPlain(t, "StepPlain", next, ok, impl.Plain{Rule: "LR", Spots: []impl.Spot{{X: 2, Y: 3, Colour: 1}}, X: 2, Y: 2})
	back, ok := impl.StepPlain(impl.Plain{Rule: "LR", Spots: []impl.Spot{{X: 2, Y: 3, Colour: 1}}, X: 2, Y: 3, Way: 1})
	wantPlain(t, "StepPlain", back, ok, impl.Plain{Rule: "LR", X: 2, Y: 4, Way: 2})
}

func TestFirstPlain(t *testing.T) {
	for _, rule := range []string{"L", "U", "LR", "LRNULR"} {
		p, ok := impl.FirstPlain(rule)
		wantPlain(t, "FirstPlain of "+rule, p, ok, impl.Plain{Rule: rule})
	}
}

func TestStepPlainTurnsBySigns(t *testing.T) {
	at := func(colour int) []impl.Spot { return []impl.Spot{{X: 5, Y: -7, Colour: colour}} }
	for _, c := range []struct {
		before, behind []impl.Spot
		x, y, way      int
	}{
		{nil, at(1), 4, -7, 3},
		{at(1), at(2), 6, -7, 1},
		{at(2), at(3), 5, -8, 0},
		{at(3), nil, 5, -6, 2},
	} {
		before := impl.Plain{Rule: "LRNU", Spots: c.before, X: 5, Y: -7}
		behind := impl.Plain{Rule: "LRNU", Spots: c.behind, X: c.x, Y: c.y, Way: c.way}
		got, ok := impl.StepPlain(before)
		wantPlain(t, "StepPlain", got, ok, behind)
		got, ok = impl.PlainBefore(behind, 1)
		wantPlain(t, "PlainBefore 1", got, ok, before)
	}
}

func TestPlainsOfOneColourHaveNoSpots(t *testing.T) {
	for rule, want := range map[string]impl.Plain{
		"L": {Rule: "L", X: -1, Way: 3},
		"R": {Rule: "R", X: 1, Way: 1},
		"N": {Rule: "N", Y: -1},
		"U": {Rule: "U", Y: 1, Way: 2},
	} {
		p, _ := impl.FirstPlain(rule)
		next, ok := impl.StepPlain(p)
		wantPlain(t, "StepPlain of "+rule, next, ok, want)
		back, ok := impl.PlainBefore(next, 1)
		wantPlain(t, "PlainBefore of "+rule, back, ok, p)
		if colour, ok := impl.ColourOfSpot(next, 0, 0); colour != 0 || !ok {
			t.Errorf("ColourOfSpot of %s is %d, %v", rule, colour, ok)
		}
		same, ok := impl.PaintSpot(next, 0, 0, 0)
		wantPlain(t, "PaintSpot of "+rule, same, ok, next)
		none, ok := impl.PaintSpot(next, 0, 0, 1)
		wantNoPlain(t, "PaintSpot with the colour 1 of "+rule, none, ok)
	}
}

func TestNoStepsChangeNothing(t *testing.T) {
	for _, p := range append(samplePlains(), limitPlains()...) {
		after, ok := impl.PlainAfter(p, 0)
		wantPlain(t, "PlainAfter 0", after, ok, p)
		before, ok := impl.PlainBefore(p, 0)
		wantPlain(t, "PlainBefore 0", before, ok, p)
		if turns, ok := impl.TurnsOfPlain(p, 0); turns != "" || !ok {
			t.Errorf("TurnsOfPlain 0 is %q, %v", turns, ok)
		}
		if right, down, ok := impl.DriftOf(p, 0, 0); right != 0 || down != 0 || !ok {
			t.Errorf("DriftOf 0 0 is %d %d, %v", right, down, ok)
		}
	}
}

func TestColourOfSpot(t *testing.T) {
	p := impl.Plain{Rule: "LRNULR", Spots: []impl.Spot{
		{X: 1000, Y: -1000, Colour: 5}, {X: -1, Y: 2, Colour: 3}, {X: 2, Y: 2, Colour: 1}, {X: -1000, Y: 1000, Colour: 4},
	}}
	for _, c := range []impl.Spot{
		{X: 1000, Y: -1000, Colour: 5}, {X: -1, Y: 2, Colour: 3}, {X: 2, Y: 2, Colour: 1}, {X: -1000, Y: 1000, Colour: 4},
		{X: 2, Y: -1}, {X: 0, Y: 0}, {X: 1, Y: 2}, {X: 1000, Y: 1000}, {X: -1000, Y: -1000},
	} {
		if got, ok := impl.ColourOfSpot(p, c.X, c.Y); got != c.Colour || !ok {
			t.Errorf("ColourOfSpot %d %d is %d, %v", c.X, c.Y, got, ok)
		}
	}
}

func TestPaintSpot(t *testing.T) {
	first, second := impl.Spot{X: 4, Y: -1, Colour: 2}, impl.Spot{X: -1, Y: 2, Colour: 1}
	p := impl.Plain{Rule: "LRN", Spots: []impl.Spot{first, second}, X: 7, Y: 8, Way: 2}
	for _, c := range []struct {
		x, y, colour int
		want         []impl.Spot
	}{
		{3, -1, 1, []impl.Spot{{X: 3, Y: -1, Colour: 1}, first, second}},
		{-9, 0, 2, []impl.Spot{first, {X: -9, Y: 0, Colour: 2}, second}},
		{0, 2, 1, []impl.Spot{first, second, {X: 0, Y: 2, Colour: 1}}},
		{1000, 1000, 1, []impl.Spot{first, second, {X: 1000, Y: 1000, Colour: 1}}},
		{-1000, -1000, 1, []impl.Spot{{X: -1000, Y: -1000, Colour: 1}, first, second}},
		{4, -1, 1, []impl.Spot{{X: 4, Y: -1, Colour: 1}, second}},
		{4, -1, 2, []impl.Spot{first, second}},
		{4, -1, 0, []impl.Spot{second}},
		{-1, 2, 0, []impl.Spot{first}},
		{7, 8, 0, []impl.Spot{first, second}},
	} {
		got, ok := impl.PaintSpot(p, c.x, c.y, c.colour)
		wantPlain(t, "PaintSpot", got, ok, impl.Plain{Rule: "LRN", Spots: c.want, X: 7, Y: 8, Way: 2})
	}
}

func TestBoxOfPlain(t *testing.T) {
	for _, c := range []struct {
		spots []impl.Spot
		want  []int
	}{
		{nil, []int{2, 2, -3, -3}},
		{[]impl.Spot{{X: 0, Y: 0, Colour: 1}}, []int{0, 2, -3, 0}},
		{[]impl.Spot{{X: 2, Y: -3, Colour: 1}}, []int{2, 2, -3, -3}},
		{[]impl.Spot{{X: 5, Y: -9, Colour: 1}, {X: 3, Y: -8, Colour: 1}}, []int{2, 5, -9, -3}},
		{[]impl.Spot{{X: 7, Y: -4, Colour: 1}, {X: -6, Y: -3, Colour: 1}, {X: 0, Y: -2, Colour: 1}}, []int{-6, 7, -4, -2}},
		{[]impl.Spot{{X: 1000, Y: -1000, Colour: 1}, {X: -1000, Y: 1000, Colour: 1}}, []int{-1000, 1000, -1000, 1000}},
	} {
		if got, ok := impl.BoxOfPlain(impl.Plain{Rule: "LR", Spots: c.spots, X: 2, Y: -3}); !slices.Equal(got, c.want) || !ok {
			t.Errorf("BoxOfPlain of %v is %v, %v; want %v", c.spots, got, ok, c.want)
		}
	}
}

func TestTurnsOfPlain(t *testing.T) {
	p := impl.Plain{Rule: "NUL", Spots: []impl.Spot{{X: -1, Y: -2, Colour: 1}, {X: 0, Y: -2, Colour: 2}}}
	for steps, want := range map[int]string{1: "N", 2: "NN", 3: "NNL", 4: "NNLU", 5: "NNLUN", 6: "NNLUNN"} {
		if got, ok := impl.TurnsOfPlain(p, steps); got != want || !ok {
			t.Errorf("TurnsOfPlain %d is %q, %v", steps, got, ok)
		}
	}
	round, _ := impl.FirstPlain("R")
	if got, ok := impl.TurnsOfPlain(round, impl.MaxGoing); got != strings.Repeat("R", 1000) || !ok {
		t.Errorf("TurnsOfPlain the most steps has %d signs, %v", len(got), ok)
	}
}

func TestDriftOf(t *testing.T) {
	p := impl.Plain{Rule: "NUL", Spots: []impl.Spot{{X: -1, Y: -2, Colour: 1}, {X: 0, Y: -2, Colour: 2}}}
	for _, c := range [][4]int{
		{0, 1, 0, -1}, {0, 2, 0, -2}, {1, 1, 0, -1}, {2, 1, -1, 0}, {3, 1, 1, 0}, {2, 2, 0, 0}, {0, 3, -1, -2}, {1, 3, 0, -1}, {3, 0, 0, 0},
	} {
		if right, down, ok := impl.DriftOf(p, c[0], c[1]); right != c[2] || down != c[3] || !ok {
			t.Errorf("DriftOf %d %d is %d %d, %v", c[0], c[1], right, down, ok)
		}
	}
}

func TestStepsAndPeriodOfDriftAreAtMostTheMost(t *testing.T) {
	for _, rule := range []string{"N", "L"} {
		p, _ := impl.FirstPlain(rule)
		for _, c := range [][2]int{{0, 1000}, {1000, 0}, {1, 999}, {600, 400}} {
			_, before := walked(p, c[0])
			_, behind := walked(p, c[0]+c[1])
			right, down, ok := impl.DriftOf(p, c[0], c[1])
			if right != behind.X-before.X || down != behind.Y-before.Y || !ok {
				t.Errorf("DriftOf %v on %s is %d %d, %v", c, rule, right, down, ok)
			}
		}
		for _, c := range [][2]int{{1, 1000}, {1000, 1}, {501, 500}, {1000, 1000}} {
			if right, down, ok := impl.DriftOf(p, c[0], c[1]); right != 0 || down != 0 || ok {
				t.Errorf("DriftOf %v on %s is %d %d, %v; want none", c, rule, right, down, ok)
			}
		}
	}
}

func TestIsHighway(t *testing.T) {
	alike := impl.Plain{Rule: "NL", Spots: []impl.Spot{{X: 0, Y: -2, Colour: 1}}}
	for _, c := range []struct {
		name          string
		p             impl.Plain
		steps, period int
		want          bool
	}{
		{"straight on", impl.Plain{Rule: "N"}, 0, 1, true},
		{"straight on, longer", impl.Plain{Rule: "N", Way: 3}, 5, 7, true},
		{"a round, which drifts by 0, 0", impl.Plain{Rule: "L"}, 0, 4, false},
		{"forth and back", impl.Plain{Rule: "U"}, 0, 2, false},
		{"the same signs, other drifts", impl.Plain{Rule: "R"}, 0, 1, false},
		{"the same signs, opposite drifts", impl.Plain{Rule: "U"}, 0, 1, false},
		{"the same signs, other drifts, longer", impl.Plain{Rule: "L"}, 2, 5, false},
		{"the third sign differs", alike, 0, 1, false},
		{"the second sign differs", alike, 1, 1, false},
		{"the first sign differs", alike, 2, 1, false},
		{"behind the spot", alike, 3, 1, true},
		{"behind the spot, longer", alike, 3, 4, true},
	} {
		if got, ok := impl.IsHighway(c.p, c.steps, c.period); got != c.want || !ok {
			t.Errorf("%s: IsHighway %d %d is %v, %v", c.name, c.steps, c.period, got, ok)
		}
	}
}

// Behind 39 steps the ant of this rule goes on in periods of 18 steps, to the left and down.
func TestIsHighwayOfARuleThatBuildsOne(t *testing.T) {
	p, _ := impl.FirstPlain("LLR")
	for _, c := range []struct {
		steps, period int
		want          bool
	}{{38, 18, false}, {39, 18, true}, {40, 18, true}, {700, 18, true}, {39, 36, true}, {39, 320, false}, {39, 9, false}, {39, 17, false}, {0, 18, false}} {
		if got, ok := impl.IsHighway(p, c.steps, c.period); got != c.want || !ok {
			t.Errorf("IsHighway %d %d is %v, %v", c.steps, c.period, got, ok)
		}
	}
	if right, down, ok := impl.DriftOf(p, 39, 18); right != -1 || down != 1 || !ok {
		t.Errorf("DriftOf 39 18 is %d %d, %v", right, down, ok)
	}
}

func TestEachPeriodIsAHighwayOfN(t *testing.T) {
	p, _ := impl.FirstPlain("N")
	for period := 1; period <= 333; period++ {
		if got, ok := impl.IsHighway(p, 0, period); !got || !ok {
			t.Errorf("IsHighway 0 %d is %v, %v", period, got, ok)
		}
	}
	for _, c := range [][2]int{{1, 333}, {997, 1}, {994, 2}} {
		if got, ok := impl.IsHighway(p, c[0], c[1]); !got || !ok {
			t.Errorf("IsHighway %v is %v, %v", c, got, ok)
		}
	}
}

func TestAllStepsOfHighwaysAreAtMostTheMost(t *testing.T) {
	for _, rule := range []string{"N", "L", "LR"} {
		p, _ := impl.FirstPlain(rule)
		for _, c := range [][2]int{{0, 334}, {2, 333}, {998, 1}, {1000, 1}, {0, 1000}, {1000, 1000}, {0, 0}, {5, 0}, {1000, 0}} {
			if got, ok := impl.IsHighway(p, c[0], c[1]); got || ok {
				t.Errorf("IsHighway %v on %s is %v, %v; want none", c, rule, got, ok)
			}
		}
	}
}

func TestMovePlain(t *testing.T) {
	p := impl.Plain{Rule: "LRN", Spots: []impl.Spot{{X: 4, Y: -1, Colour: 2}, {X: -1, Y: 2, Colour: 1}}, X: 7, Y: 8, Way: 2}
	moved, ok := impl.MovePlain(p, 3, -5)
	wantPlain(t, "MovePlain 3 -5", moved, ok, impl.Plain{Rule: "LRN",
		Spots: []impl.Spot{{X: 7, Y: -6, Colour: 2}, {X: 2, Y: -3, Colour: 1}}, X: 10, Y: 3, Way: 2})
	moved, ok = impl.MovePlain(p, 0, 0)
	wantPlain(t, "MovePlain 0 0", moved, ok, p)
	moved, ok = impl.MovePlain(impl.Plain{Rule: "L", X: -1000, Y: 1000}, 1000, -1000)
	wantPlain(t, "MovePlain 1000 -1000", moved, ok, impl.Plain{Rule: "L"})
}

func TestMovePlainMeetsTheSize(t *testing.T) {
	p := impl.Plain{Rule: "LR", Spots: []impl.Spot{{X: 10, Y: -20, Colour: 1}, {X: -30, Y: 40, Colour: 1}}}
	for _, c := range [][2]int{{990, 0}, {-970, 0}, {0, -980}, {0, 960}, {990, 960}, {-970, -980}} {
		if got, ok := impl.MovePlain(p, c[0], c[1]); !ok || len(got.Spots) != 2 || got.X != c[0] || got.Y != c[1] {
			t.Errorf("MovePlain %v is %+v, %v", c, got, ok)
		}
	}
	for _, c := range [][2]int{{991, 0}, {-971, 0}, {0, -981}, {0, 961}} {
		got, ok := impl.MovePlain(p, c[0], c[1])
		wantNoPlain(t, "MovePlain", got, ok)
	}
	for _, c := range [][2]int{{1, 0}, {0, 1}} {
		got, ok := impl.MovePlain(impl.Plain{Rule: "LR", X: 1000, Y: 1000}, c[0], c[1])
		wantNoPlain(t, "MovePlain of the ant", got, ok)
		got, ok = impl.MovePlain(impl.Plain{Rule: "LR", X: -1000, Y: -1000}, -c[0], -c[1])
		wantNoPlain(t, "MovePlain of the ant back", got, ok)
		got, ok = impl.MovePlain(impl.Plain{Rule: "LR", X: 1000, Y: 1000}, -1001*c[0], -1001*c[1])
		wantNoPlain(t, "MovePlain by too much, within the size", got, ok)
	}
}

func TestTurnPlain(t *testing.T) {
	p := impl.Plain{Rule: "LRN", Spots: []impl.Spot{{X: 4, Y: -1, Colour: 2}, {X: -1, Y: 2, Colour: 1}, {X: 3, Y: 2, Colour: 2}}, X: 7, Y: 8, Way: 3}
	turned, ok := impl.TurnPlain(p)
	wantPlain(t, "TurnPlain", turned, ok, impl.Plain{Rule: "LRN",
		Spots: []impl.Spot{{X: -2, Y: -1, Colour: 1}, {X: -2, Y: 3, Colour: 2}, {X: 1, Y: 4, Colour: 2}}, X: -8, Y: 7})
	turned, ok = impl.TurnPlain(impl.Plain{Rule: "U", X: 1000, Y: -1000, Way: 1})
	wantPlain(t, "TurnPlain of the size", turned, ok, impl.Plain{Rule: "U", X: 1000, Y: 1000, Way: 2})
}

func TestMirrorPlain(t *testing.T) {
	p := impl.Plain{Rule: "LRNUL", Spots: []impl.Spot{{X: 4, Y: -1, Colour: 2}, {X: -1, Y: 2, Colour: 1}, {X: 3, Y: 2, Colour: 4}}, X: 7, Y: 8}
	for way, want := range []int{0, 3, 2, 1} {
		p.Way = way
		mirrored, ok := impl.MirrorPlain(p)
		wantPlain(t, "MirrorPlain", mirrored, ok, impl.Plain{Rule: "RLNUR",
			Spots: []impl.Spot{{X: -4, Y: -1, Colour: 2}, {X: -3, Y: 2, Colour: 4}, {X: 1, Y: 2, Colour: 1}}, X: -7, Y: 8, Way: want})
	}
}

func TestPictureOf(t *testing.T) {
	spots := []impl.Spot{{X: 2, Y: -1, Colour: 5}, {X: -1, Y: 1, Colour: 3}, {X: 1, Y: 1, Colour: 1}}
	for _, c := range []struct {
		p    impl.Plain
		want string
	}{
		{impl.Plain{Rule: "L", X: 500, Y: -600}, "0"},
		{impl.Plain{Rule: "LRNULR", Spots: spots[:1], X: 2, Y: -1}, "5"},
		{impl.Plain{Rule: "LRNULR", Spots: spots}, "0005/0000/3010"},
		{impl.Plain{Rule: "LRNULR", Spots: spots, X: -2, Y: 2}, "00005/00000/03010/00000"},
		{impl.Plain{Rule: "LRNULR", Spots: spots[:1], X: 2, Y: 1}, "5/0/0"},
		{impl.Plain{Rule: "LRNULR", Spots: spots[1:], Y: 1}, "301"},
	} {
		if got, ok := impl.PictureOf(c.p); got != c.want || !ok {
			t.Errorf("PictureOf of %+v is %q, %v; want %q", c.p, got, ok, c.want)
		}
	}
}

func TestSidesOfPicturesAreAtMostForty(t *testing.T) {
	p := impl.Plain{Rule: "LR", Spots: []impl.Spot{{X: -20, Y: -20, Colour: 1}}}
	for _, c := range [][2]int{{19, 19}, {19, -20}, {-20, 19}} {
		p.X, p.Y = c[0], c[1]
		rows := make([]string, c[1]+21)
		for i := range rows {
			rows[i] = strings.Repeat("0", c[0]+21)
		}
		rows[0] = "1" + rows[0][1:]
		if got, ok := impl.PictureOf(p); got != strings.Join(rows, "/") || !ok {
			t.Errorf("PictureOf with the ant at %v is %q, %v", c, got, ok)
		}
	}
	for _, c := range [][2]int{{20, 0}, {0, 20}, {-60, 0}, {0, -60}, {1000, 1000}} {
		p.X, p.Y = c[0], c[1]
		if got, ok := impl.PictureOf(p); got != "" || ok {
			t.Errorf("PictureOf with the ant at %v is %q, %v; want none", c, got, ok)
		}
	}
}

func TestPlainOfWorld(t *testing.T) {
	for text, want := range map[string]impl.Plain{
		"LRU:3x2:012210:2,1,3": {Rule: "LRU", Spots: []impl.Spot{
			{X: 1, Y: 0, Colour: 1}, {X: 2, Y: 0, Colour: 2}, {X: 0, Y: 1, Colour: 2}, {X: 1, Y: 1, Colour: 1},
		}, X: 2, Y: 1, Way: 3},
		"LR:1x1:1:0,0,2":        {Rule: "LR", Spots: []impl.Spot{{Colour: 1}}, Way: 2},
		"LR:1x1:0:0,0,1":        {Rule: "LR", Way: 1},
		"N:9x1:000000000:8,0,0": {Rule: "N", X: 8},
	} {
		p, ok := impl.PlainOfWorld(read(t, text))
		wantPlain(t, "PlainOfWorld of "+text, p, ok, want)
	}
	full := impl.World{Rule: "LR", Width: 9, Height: 9, Cells: strings.Repeat("1", 81)}
	if p, ok := impl.PlainOfWorld(full); !ok || len(p.Spots) != 81 || p.Spots[80] != (impl.Spot{X: 8, Y: 8, Colour: 1}) {
		t.Errorf("PlainOfWorld of 81 cells is %+v, %v", p, ok)
	}
}
