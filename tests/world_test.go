package tests

import (
	"slices"
	"strings"
	"testing"

	"loop.example/g01276/impl"
)

func TestExampleOfWorlds(t *testing.T) {
	w := read(t, "LR:3x3:000000000:1,1,0")
	next, ok := impl.StepWorld(w)
	wantWorld(t, "StepWorld", next, ok, "LR:3x3:000010000:0,1,3")
	back, ok := impl.StepBack(next)
	wantWorld(t, "StepBack", back, ok, "LR:3x3:000000000:1,1,0")
	if turns, ok := impl.TurnsAfter(w, 4); turns != "LLLL" || !ok {
		t.Errorf("TurnsAfter 4 is %q, %v", turns, ok)
	}
	after, ok := impl.WorldAfter(w, 4)
	wantWorld(t, "WorldAfter 4", after, ok, "LR:3x3:000110110:1,1,0")
}

func TestLimitsOfWorldsAreConstants(t *testing.T) {
	if impl.MaxColours != 6 || impl.MaxSide != 9 || impl.MaxSteps != 3000 {
		t.Error(impl.MaxColours, impl.MaxSide, impl.MaxSteps)
	}
}

func TestIsRule(t *testing.T) {
	for _, rule := range []string{"L", "R", "N", "U", "LR", "LLLLLL", "LRNULR"} {
		if !impl.IsRule(rule) {
			t.Errorf("%q is a rule", rule)
		}
	}
	for _, rule := range invalidRules() {
		if impl.IsRule(rule) {
			t.Errorf("%q is no rule", rule)
		}
	}
}

func TestIsWorld(t *testing.T) {
	for _, w := range sampleWorlds() {
		if !impl.IsWorld(w) {
			t.Errorf("%+v is a world", w)
		}
	}
	for _, w := range []impl.World{
		{Rule: "L", Width: 1, Height: 1, Cells: "0"},
		{Rule: "LRNULR", Width: 2, Height: 3, Cells: "012345", X: 1, Y: 2, Way: 3},
		{Rule: "LR", Width: 9, Height: 9, Cells: strings.Repeat("1", 81), X: 8, Y: 8, Way: 3},
	} {
		if !impl.IsWorld(w) {
			t.Errorf("%+v is a world", w)
		}
	}
	for _, w := range invalidWorlds() {
		if impl.IsWorld(w) {
			t.Errorf("%+v is no world", w)
		}
	}
}

func TestEmptyWorld(t *testing.T) {
	for text, size := range map[string][2]int{
		"LR:1x1:0:0,0,0":                               {1, 1},
		"LR:3x2:000000:0,0,0":                          {3, 2},
		"LR:1x9:000000000:0,0,0":                       {1, 9},
		"LR:9x9:" + strings.Repeat("0", 81) + ":0,0,0": {9, 9},
	} {
		w, ok := impl.EmptyWorld("LR", size[0], size[1])
		wantWorld(t, "EmptyWorld", w, ok, text)
	}
}

func TestStepTurnsBySigns(t *testing.T) {
	for before, behind := range map[string]string{
		"LRNU:3x3:000000000:1,1,0": "LRNU:3x3:000010000:0,1,3",
		"LRNU:3x3:000010000:1,1,0": "LRNU:3x3:000020000:2,1,1",
		"LRNU:3x3:000020000:1,1,0": "LRNU:3x3:000030000:1,0,0",
		"LRNU:3x3:000030000:1,1,0": "LRNU:3x3:000000000:1,2,2",
		"LRNU:3x3:000030000:1,1,1": "LRNU:3x3:000000000:0,1,3",
	} {
		w, ok := impl.StepWorld(read(t, before))
		wantWorld(t, "StepWorld of "+before, w, ok, behind)
		w, ok = impl.StepBack(read(t, behind))
		wantWorld(t, "StepBack of "+behind, w, ok, before)
	}
}

func TestStepGoesAroundEdges(t *testing.T) {
	for before, behind := range map[string]string{
		"N:3x2:000000:1,0,0": "N:3x2:000000:1,1,0",
		"N:3x2:000000:2,0,1": "N:3x2:000000:0,0,1",
		"N:3x2:000000:1,1,2": "N:3x2:000000:1,0,2",
		"N:3x2:000000:0,1,3": "N:3x2:000000:2,1,3",
		"LR:1x1:0:0,0,0":     "LR:1x1:1:0,0,3",
		"LR:1x1:1:0,0,3":     "LR:1x1:0:0,0,0",
		"LR:2x1:00:0,0,0":    "LR:2x1:10:1,0,3",
	} {
		w, ok := impl.StepWorld(read(t, before))
		wantWorld(t, "StepWorld of "+before, w, ok, behind)
		w, ok = impl.StepBack(read(t, behind))
		wantWorld(t, "StepBack of "+behind, w, ok, before)
	}
}

func TestColourAt(t *testing.T) {
	w := read(t, "LRNULR:3x2:012345:0,0,0")
	for y := range 2 {
		for x := range 3 {
			if c, ok := impl.ColourAt(w, x, y); c != 3*y+x || !ok {
				t.Errorf("ColourAt %d %d is %d, %v", x, y, c, ok)
			}
		}
	}
}

func TestPaintCell(t *testing.T) {
	w := read(t, "LRU:3x2:012012:1,1,2")
	painted, ok := impl.PaintCell(w, 2, 1, 0)
	wantWorld(t, "PaintCell 2 1 0", painted, ok, "LRU:3x2:012010:1,1,2")
	painted, ok = impl.PaintCell(w, 0, 0, 2)
	wantWorld(t, "PaintCell 0 0 2", painted, ok, "LRU:3x2:212012:1,1,2")
	painted, ok = impl.PaintCell(w, 1, 0, 1)
	wantWorld(t, "PaintCell with the same colour", painted, ok, "LRU:3x2:012012:1,1,2")
	one, ok := impl.PaintCell(read(t, "LR:1x1:0:0,0,0"), 0, 0, 1)
	wantWorld(t, "PaintCell of one cell", one, ok, "LR:1x1:1:0,0,0")
}

func TestPlaceAnt(t *testing.T) {
	w := read(t, "LRU:3x2:012012:1,1,2")
	placed, ok := impl.PlaceAnt(w, 2, 0, 3)
	wantWorld(t, "PlaceAnt 2 0 3", placed, ok, "LRU:3x2:012012:2,0,3")
	placed, ok = impl.PlaceAnt(w, 0, 1, 0)
	wantWorld(t, "PlaceAnt 0 1 0", placed, ok, "LRU:3x2:012012:0,1,0")
	placed, ok = impl.PlaceAnt(w, 1, 1, 2)
	wantWorld(t, "PlaceAnt where it is", placed, ok, "LRU:3x2:012012:1,1,2")
}

func TestCountColours(t *testing.T) {
	for text, want := range map[string][]int{
		"LRU:3x2:012210:0,0,0":    {2, 2, 2},
		"LRNULR:3x2:555035:0,0,0": {1, 0, 0, 1, 0, 4},
		"L:2x2:0000:0,0,0":        {4},
		"LR:1x1:1:0,0,0":          {0, 1},
	} {
		if got, ok := impl.CountColours(read(t, text)); !ok || !slices.Equal(got, want) {
			t.Errorf("CountColours of %s is %v, %v", text, got, ok)
		}
	}
}

func TestCountColoursIsNewlyAllocated(t *testing.T) {
	w := read(t, "LRU:3x2:012210:0,0,0")
	first, _ := impl.CountColours(w)
	first[0] = 100
	if second, _ := impl.CountColours(w); second[0] != 2 {
		t.Error("a result is kept:", second)
	}
}

func TestShiftWorld(t *testing.T) {
	w := read(t, "LRNULR:3x2:012345:2,0,1")
	shifted, ok := impl.ShiftWorld(w, 0, 0)
	wantWorld(t, "ShiftWorld 0 0", shifted, ok, "LRNULR:3x2:012345:2,0,1")
	shifted, ok = impl.ShiftWorld(w, 1, 0)
	wantWorld(t, "ShiftWorld 1 0", shifted, ok, "LRNULR:3x2:201534:0,0,1")
	shifted, ok = impl.ShiftWorld(w, 2, 1)
	wantWorld(t, "ShiftWorld 2 1", shifted, ok, "LRNULR:3x2:453120:1,1,1")
	shifted, ok = impl.ShiftWorld(read(t, "LR:1x1:1:0,0,2"), 0, 0)
	wantWorld(t, "ShiftWorld of one cell", shifted, ok, "LR:1x1:1:0,0,2")
}

func TestTurnWorld(t *testing.T) {
	for before, want := range map[string]string{
		"LRNULR:3x2:012345:2,0,1": "LRNULR:2x3:304152:1,2,2",
		"LRNULR:3x2:012345:0,1,3": "LRNULR:2x3:304152:0,0,0",
		"LR:1x1:1:0,0,3":          "LR:1x1:1:0,0,0",
		"LRU:1x3:012:0,0,0":       "LRU:3x1:210:2,0,1",
	} {
		w, ok := impl.TurnWorld(read(t, before))
		wantWorld(t, "TurnWorld of "+before, w, ok, want)
	}
}

func TestFourTurnsAndTwoMirrorsChangeNothing(t *testing.T) {
	for _, w := range sampleWorlds() {
		turned := w
		for range 4 {
			turned, _ = impl.TurnWorld(turned)
		}
		mirrored, _ := impl.MirrorWorld(w)
		mirrored, _ = impl.MirrorWorld(mirrored)
		if turned != w || mirrored != w {
			t.Errorf("of %+v, four turns are %+v, two mirrors %+v", w, turned, mirrored)
		}
	}
}

func TestMirrorWorld(t *testing.T) {
	for before, want := range map[string]string{
		"LRNULL:3x2:012345:2,0,1": "RLNURR:3x2:210543:0,0,3",
		"LRNULL:3x2:012345:0,1,0": "RLNURR:3x2:210543:2,1,0",
		"LRNULL:3x2:012345:1,1,2": "RLNURR:3x2:210543:1,1,2",
		"LRNULL:3x2:012345:1,1,3": "RLNURR:3x2:210543:1,1,1",
		"NU:1x1:1:0,0,3":          "NU:1x1:1:0,0,1",
	} {
		w, ok := impl.MirrorWorld(read(t, before))
		wantWorld(t, "MirrorWorld of "+before, w, ok, want)
	}
}

func TestBackWorld(t *testing.T) {
	for before, want := range map[string]string{
		"LRNULL:3x2:012345:2,0,1": "RRUNLR:3x2:054321:1,0,3",
		"LRNULL:3x2:012345:0,1,0": "RRUNLR:3x2:054321:0,0,2",
		"LR:3x3:000010000:0,1,3":  "LR:3x3:000010000:1,1,1",
		"LLR:3x1:012:0,0,1":       "LRR:3x1:021:2,0,3",
		"L:1x1:0:0,0,2":           "R:1x1:0:0,0,0",
	} {
		w, ok := impl.BackWorld(read(t, before))
		wantWorld(t, "BackWorld of "+before, w, ok, want)
	}
}

func TestTurnsAfter(t *testing.T) {
	w := read(t, "LR:3x3:000000000:1,1,0")
	for steps, want := range map[int]string{0: "", 1: "L", 6: "LLLLRL"} {
		if got, ok := impl.TurnsAfter(w, steps); !ok || got != want {
			t.Errorf("TurnsAfter %d is %q, %v", steps, got, ok)
		}
	}
	if got, ok := impl.TurnsAfter(read(t, "LRNU:1x1:2:0,0,0"), 6); !ok || got != "NULRNU" {
		t.Errorf("TurnsAfter of one cell is %q, %v", got, ok)
	}
	if got, ok := impl.TurnsAfter(w, impl.MaxSteps); !ok || len(got) != impl.MaxSteps {
		t.Errorf("TurnsAfter the most steps has %d signs, %v", len(got), ok)
	}
}

func TestOtherRule(t *testing.T) {
	for rule, want := range map[string]string{"L": "R", "R": "L", "NU": "NU", "LRNULL": "RLNURR"} {
		if got, ok := impl.OtherRule(rule); !ok || got != want {
			t.Errorf("OtherRule of %q is %q, %v", rule, got, ok)
		}
	}
}

func TestWorldTextAndParseWorld(t *testing.T) {
	w := impl.World{Rule: "LRU", Width: 3, Height: 2, Cells: "012210", X: 2, Y: 1, Way: 3}
	if text, ok := impl.WorldText(w); !ok || text != "LRU:3x2:012210:2,1,3" {
		t.Errorf("WorldText is %q, %v", text, ok)
	}
	for _, w := range sampleWorlds() {
		text, ok := impl.WorldText(w)
		if back, fine := impl.ParseWorld(text); !ok || !fine || back != w {
			t.Errorf("ParseWorld of %q is %+v, %v; want %+v", text, back, fine, w)
		}
	}
}

func TestParseWorldFails(t *testing.T) {
	for _, s := range []string{
		"", ":", ":::", "::::", "LR", "LR:3x3", "LR:3x3:000000000", "LR:3x3:000000000:", "LR:3x3:000000000:1,1",
		"LR:3x3:000000000:1,1,0 ", " LR:3x3:000000000:1,1,0", "LR:3x3:000000000:1,1,0\n", "LR:3x3:000000000:1,1,0:",
		"LR:3x3:000000000:1,1,00", "LR:3x3:000000000:01,1,0", "LR:03x3:000000000:1,1,0", "LR:+3x3:000000000:1,1,0",
		"LR:3X3:000000000:1,1,0", "LR:3x3:000000000:1.1,0", "LR:3x3:000000000:1,1.0", "LR:3x3:000000000:1,1;0",
		"LR:3x3:00000000:1,1,0", "LR:3x3:0000000000:1,1,0", "LR:3x3:000000002:1,1,0", "LR:3x3:00000000/:1,1,0",
		"LR:3x3:000000000:3,1,0", "LR:3x3:000000000:1,3,0", "LR:3x3:000000000:1,1,4", "LR:3x3:000000000:-1,1,0",
		"LR:0x3::0,0,0", "LR:3x0::0,0,0", "LR:10x1:0000000000:0,0,0", "LR:1x10:0000000000:0,0,0",
		"LR:;x1:00000000000:0,0,0", "LR:1x:: 0000000000:0,0,0", ":3x3:000000000:1,1,0", "LRLRLRL:1x1:0:0,0,0",
		"lr:3x3:000000000:1,1,0", "LX:3x3:000000000:1,1,0", "LR:3x3:000000000:/,1,0", "LR:3x3:000000000:1,1,\xff",
		"LR::3x3:000000000:1,1,0", "LR:3x3::000000000:1,1,0", strings.Repeat(":", 10000), strings.Repeat("L", 10000),
	} {
		if w, ok := impl.ParseWorld(s); ok || w != (impl.World{}) {
			t.Errorf("ParseWorld(%q) is %+v, %v", s, w, ok)
		}
	}
}
