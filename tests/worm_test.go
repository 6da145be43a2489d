package tests

import (
	"slices"
	"strconv"
	"strings"
	"testing"

	"loop.example/g01276/impl"
)

func TestExampleOfWorms(t *testing.T) {
	w, ok := impl.FreshWorm(3, 3)
	wantWorm(t, "FreshWorm of 3 by 3", w, ok, wormOf("3x3:111111111:111111111:0,0,0"))
	n, ok := impl.LinesLeft(w)
	wantNumber(t, "LinesLeft", n, ok, 18, true)
	for node := range 9 {
		n, ok := impl.LinesAt(w, node%3, node/3)
		wantNumber(t, "LinesAt "+strconv.Itoa(node), n, ok, 4, true)
	}
	meals, ok := impl.MealsOfWorm(w, "LNR")
	if !ok || !strings.HasPrefix(meals, "LLLLN") {
		t.Error("MealsOfWorm are", meals, ok)
	}
	odd, ok := impl.OddNodes(w)
	wantList(t, "OddNodes of a fresh worm", odd, ok)
	for _, taste := range allTastes() {
		death, ok := impl.DeathOf(w, taste)
		if !ok || death.X != 0 || death.Y != 0 {
			t.Errorf("DeathOf with %s is %s, %v", taste, wormName(death), ok)
		}
		next, _ := impl.EatLine(w, taste)
		odd, ok := impl.OddNodes(next)
		if !ok || len(odd) != 2 {
			t.Errorf("OddNodes behind a step with %s are %v, %v", taste, odd, ok)
		}
	}
}

func TestLimitsOfWormsAreConstants(t *testing.T) {
	if impl.MaxGrid != 6 {
		t.Error(impl.MaxGrid)
	}
}

func TestIsWorm(t *testing.T) {
	for _, w := range sampleWorms() {
		if !impl.IsWorm(w) {
			t.Errorf("%s is no worm", wormName(w))
		}
	}
	for _, w := range placesOnGrid(wormOf("3x4:110101001101:011110000111:0,0,0")) {
		if !impl.IsWorm(w) {
			t.Errorf("%s is no worm", wormName(w))
		}
	}
	for _, w := range invalidWorms() {
		if impl.IsWorm(w) {
			t.Errorf("%s is a worm", wormName(w))
		}
	}
}

func TestIsTaste(t *testing.T) {
	for _, taste := range allTastes() {
		if !impl.IsTaste(taste) {
			t.Errorf("%s is no taste", taste)
		}
	}
	for _, taste := range wrongTastes() {
		if impl.IsTaste(taste) {
			t.Errorf("%q is a taste", taste[:min(len(taste), 100)])
		}
	}
}

// Of all texts of three signs just six are tastes.
func TestTastesHaveEachSignOnce(t *testing.T) {
	var tastes []string
	for i := range 1 << 21 {
		if text := string([]byte{byte(i >> 14), byte(i >> 7 & 127), byte(i & 127)}); impl.IsTaste(text) {
			tastes = append(tastes, text)
		}
	}
	if !slices.Equal(tastes, allTastes()) {
		t.Error(tastes)
	}
}

func TestFreshWormAndLinesLeft(t *testing.T) {
	for _, size := range gridSizes() {
		what := " of " + strconv.Itoa(size[0]) + " by " + strconv.Itoa(size[1])
		w, ok := impl.FreshWorm(size[0], size[1])
		wantWorm(t, "FreshWorm"+what, w, ok, fullWorm(size[0], size[1]))
		n, ok := impl.LinesLeft(w)
		wantNumber(t, "LinesLeft of a fresh worm"+what, n, ok, 2*size[0]*size[1], true)
		n, ok = impl.LinesLeft(bareWorm(size[0], size[1]))
		wantNumber(t, "LinesLeft of none"+what, n, ok, 0, true)
	}
	for text, want := range map[string]int{
		"3x3:100000000:000000000:2,2,3": 1, "3x3:000000000:000000001:1,1,1": 1, "3x3:110100001:000011110:0,0,0": 8, "3x4:111111111111:000000000000:0,3,2": 12,
	} {
		n, ok := impl.LinesLeft(wormOf(text))
		wantNumber(t, "LinesLeft of "+text, n, ok, want, true)
	}
}

func TestLinesAt(t *testing.T) {
	for text, want := range map[string][]int{
		"3x3:100000000:000000000:1,1,1":       {1, 1, 0, 0, 0, 0, 0, 0, 0},
		"3x3:001000000:000000000:1,1,1":       {1, 0, 1, 0, 0, 0, 0, 0, 0},
		"3x3:000000001:000000000:1,1,1":       {0, 0, 0, 0, 0, 0, 1, 0, 1},
		"3x3:000000000:100000000:1,1,1":       {1, 0, 0, 1, 0, 0, 0, 0, 0},
		"3x3:000000000:000000001:1,1,1":       {0, 0, 1, 0, 0, 0, 0, 0, 1},
		"3x3:000000000:000000100:1,1,1":       {1, 0, 0, 0, 0, 0, 1, 0, 0},
		"3x3:000110000:010010000:0,0,0":       {0, 1, 0, 1, 4, 1, 0, 1, 0},
		"3x3:101000000:100000100:2,2,0":       {4, 1, 1, 1, 0, 0, 1, 0, 0},
		"3x3:111000000:000000000:0,0,0":       {2, 2, 2, 0, 0, 0, 0, 0, 0},
		"3x3:000000000:010010010:0,0,0":       {0, 2, 0, 0, 2, 0, 0, 2, 0},
		"4x3:000100000000:000000000001:0,0,0": {1, 0, 0, 2, 0, 0, 0, 0, 0, 0, 0, 1},
		"3x4:001000000000:000000000001:0,0,0": {1, 0, 2, 0, 0, 0, 0, 0, 0, 0, 0, 1},
	} {
		w := wormOf(text)
		for node, lines := range want {
			n, ok := impl.LinesAt(w, node%w.Width, node/w.Width)
			wantNumber(t, "LinesAt of "+text+" and the node "+strconv.Itoa(node), n, ok, lines, true)
		}
	}
}

// The first sign of a taste for which there is a line decides, on each way, within the grid and around its edges.
func TestEatLine(t *testing.T) {
	for _, c := range [][3]string{
		{"3x3:111111111:111111111:0,0,0", "NLR", "3x3:111111111:111111011:0,2,0"},
		{"3x3:111111111:111111111:0,0,0", "LNR", "3x3:110111111:111111111:2,0,3"},
		{"3x3:111111111:111111111:0,0,0", "RNL", "3x3:011111111:111111111:1,0,1"},
		{"3x3:111111111:111111111:2,2,1", "NRL", "3x3:111111110:111111111:0,2,1"},
		{"3x3:111111111:111111111:2,2,1", "LRN", "3x3:111111111:111110111:2,1,0"},
		{"3x3:111111111:111111111:2,2,1", "RLN", "3x3:111111111:111111110:2,0,2"},
		{"3x3:111111111:111111111:2,2,2", "NRL", "3x3:111111111:111111110:2,0,2"},
		{"3x3:111111111:111111111:2,2,2", "LRN", "3x3:111111110:111111111:0,2,1"},
		{"3x3:111111111:111111111:2,2,2", "RNL", "3x3:111111101:111111111:1,2,3"},
		{"3x3:111111111:111111111:0,0,3", "NLR", "3x3:110111111:111111111:2,0,3"},
		{"3x3:111111111:111111111:0,0,3", "LNR", "3x3:111111111:011111111:0,1,2"},
		{"3x3:111111111:111111111:0,0,3", "RNL", "3x3:111111111:111111011:0,2,0"},
		{"3x3:111111111:111111111:1,1,0", "NLR", "3x3:111111111:101111111:1,0,0"},
		{"3x3:111111111:111111111:1,1,1", "NLR", "3x3:111101111:111111111:2,1,1"},
		{"3x3:111111111:111111111:1,1,2", "NLR", "3x3:111111111:111101111:1,2,2"},
		{"3x3:111111111:111111111:1,1,3", "NLR", "3x3:111011111:111111111:0,1,3"},
		{"4x3:111111111111:111111111111:3,0,1", "NLR", "4x3:111011111111:111111111111:0,0,1"},
		{"3x4:111111111111:111111111111:0,0,0", "NLR", "3x4:111111111111:111111111011:0,3,0"},
		{"6x6:" + strings.Repeat("1", 36) + ":" + strings.Repeat("1", 36) + ":5,5,2", "NLR", "6x6:" + strings.Repeat("1", 36) + ":" + strings.Repeat("1", 35) + "0:5,0,2"},
		// The node 1,1 has the lines to the left and to the right, but none above it.
		{"3x3:000110000:000010000:1,1,0", "NLR", "3x3:000010000:000010000:0,1,3"},
		{"3x3:000110000:000010000:1,1,0", "NRL", "3x3:000100000:000010000:2,1,1"},
		{"3x3:000110000:000010000:1,1,0", "RNL", "3x3:000100000:000010000:2,1,1"},
		// It has just the line to its right.
		{"3x3:000010000:000000000:1,1,0", "LNR", "3x3:000000000:000000000:2,1,1"},
		{"3x3:000010000:000000000:1,1,1", "LRN", "3x3:000000000:000000000:2,1,1"},
		{"3x3:000010000:000000000:1,1,2", "NRL", "3x3:000000000:000000000:2,1,1"},
		// It has just the line behind it, or none: the worm dies.
		{"3x3:000010000:000000000:1,1,3", "NRL", ""},
		{"3x3:111101111:101111111:1,1,2", "RNL", "3x3:111001111:101111111:0,1,3"},
		{"3x3:111001111:111101111:1,1,2", "RNL", ""},
		{"3x3:111001111:101101111:1,1,2", "LNR", ""},
		{"3x3:000000000:000000000:2,0,0", "LNR", ""},
	} {
		next, ok := impl.EatLine(wormOf(c[0]), c[1])
		if c[2] == "" {
			wantNoWorm(t, "EatLine of "+c[0]+" with "+c[1], next, ok)
		} else {
			wantWorm(t, "EatLine of "+c[0]+" with "+c[1], next, ok, wormOf(c[2]))
		}
	}
}

// The life of a fresh worm, step by step: it ends when all lines at its first node are eaten, though others are left.
func TestLifeOfAFreshWorm(t *testing.T) {
	w, taste := fullWorm(3, 3), "LNR"
	steps, ok := impl.LifeOf(w, taste)
	wantNumber(t, "LifeOf", steps, ok, 14, true)
	meals, ok := impl.MealsOfWorm(w, taste)
	wantText(t, "MealsOfWorm", meals, ok, "LLLLNLLRLLRRLR", true)
	track, ok := impl.TrackOfWorm(w, taste)
	wantList(t, "TrackOfWorm", track, ok, 0, 2, 5, 3, 0, 6, 8, 2, 1, 4, 5, 8, 7, 1, 0)
	death := wormOf("3x3:000100100:000110000:0,0,3")
	got, ok := impl.DeathOf(w, taste)
	wantWorm(t, "DeathOf", got, ok, death)
	for _, c := range []struct {
		steps int
		want  string
	}{
		{0, "3x3:111111111:111111111:0,0,0"}, {1, "3x3:110111111:111111111:2,0,3"}, {2, "3x3:110111111:110111111:2,1,2"}, {3, "3x3:110110111:110111111:0,1,1"},
		{4, "3x3:110110111:010111111:0,0,0"}, {5, "3x3:110110111:010111011:0,2,0"}, {8, "3x3:100110110:010111010:1,0,3"}, {13, "3x3:100100100:000110000:1,0,2"}, {14, wormName(death)},
	} {
		got, ok := impl.WormAfter(w, taste, c.steps)
		wantWorm(t, "WormAfter "+strconv.Itoa(c.steps), got, ok, wormOf(c.want))
	}
	for _, steps := range []int{15, 16, 18, 99, 100} {
		got, ok := impl.WormAfter(w, taste, steps)
		wantNoWorm(t, "WormAfter "+strconv.Itoa(steps), got, ok)
	}
}

// A worm may die at once: without lines at its node, with a line behind it alone, and with many lines elsewhere.
func TestWormsThatDieAtOnce(t *testing.T) {
	for _, text := range []string{
		"3x3:000000000:000000000:0,0,0", "3x3:000000000:000000000:2,2,3", "3x3:000000000:000010000:1,1,0", "3x3:000100000:000000000:1,1,1", "3x3:000000000:010000000:1,1,2", "3x3:000010000:000000000:1,1,3",
		"3x3:111001111:101101111:1,1,2", "3x3:111001111:101111111:1,1,0", "3x3:010111111:111111011:0,0,0", "3x3:010111111:011111111:0,0,2", "3x3:110111111:011111011:0,0,3", "3x3:011111111:011111011:0,0,1",
		wormName(bareWorm(6, 6)), wormName(bareWorm(3, 6)),
	} {
		w := wormOf(text)
		for _, taste := range allTastes() {
			wantLife(t, w, taste, plainLife{worms: []impl.Worm{w}, track: []int{w.Y*w.Width + w.X}})
			got, ok := impl.WormAfter(w, taste, 0)
			wantWorm(t, "WormAfter 0 of "+text, got, ok, w)
			for _, steps := range []int{1, 2, 72, 100} {
				got, ok := impl.WormAfter(w, taste, steps)
				wantNoWorm(t, "WormAfter "+strconv.Itoa(steps)+" of "+text, got, ok)
			}
		}
		wantLongest(t, w, 0, allTastes()...)
	}
}

func TestGiveBack(t *testing.T) {
	for text, want := range map[string][4]string{
		"3x3:110111111:111111111:2,0,3": {"3x3:111111111:111111111:0,0,0", "", "3x3:111111111:111111111:0,0,2", "3x3:111111111:111111111:0,0,3"},
		"3x3:011111111:111111111:1,0,1": {"3x3:111111111:111111111:0,0,0", "3x3:111111111:111111111:0,0,1", "3x3:111111111:111111111:0,0,2", ""},
		"3x3:111111111:111111011:0,2,0": {"3x3:111111111:111111111:0,0,0", "3x3:111111111:111111111:0,0,1", "", "3x3:111111111:111111111:0,0,3"},
		"3x3:111111111:111111011:0,0,2": {"", "3x3:111111111:111111111:0,2,1", "3x3:111111111:111111111:0,2,2", "3x3:111111111:111111111:0,2,3"},
		"3x3:000000000:000000000:1,1,0": {"3x3:000000000:000010000:1,2,0", "3x3:000000000:000010000:1,2,1", "", "3x3:000000000:000010000:1,2,3"},
		"3x3:000000000:000000000:1,1,1": {"3x3:000100000:000000000:0,1,0", "3x3:000100000:000000000:0,1,1", "3x3:000100000:000000000:0,1,2", ""},
		"3x3:000000000:000000000:1,1,2": {"", "3x3:000000000:010000000:1,0,1", "3x3:000000000:010000000:1,0,2", "3x3:000000000:010000000:1,0,3"},
		"3x3:000000000:000000000:1,1,3": {"3x3:000010000:000000000:2,1,0", "", "3x3:000010000:000000000:2,1,2", "3x3:000010000:000000000:2,1,3"},
		// The line behind the worm is there.
		"3x3:111111111:111111111:0,0,0": {}, "3x3:111111111:111111111:2,2,1": {}, "3x3:000000000:000010000:1,1,0": {}, "3x3:000100000:000000000:1,1,1": {}, "3x3:000000000:010000000:1,1,2": {}, "3x3:000010000:000000000:1,1,3": {},
	} {
		for way, before := range want {
			got, ok := impl.GiveBack(wormOf(text), way)
			what := "GiveBack of " + text + " and " + strconv.Itoa(way)
			if before == "" {
				wantNoWorm(t, what, got, ok)
			} else {
				wantWorm(t, what, got, ok, wormOf(before))
			}
		}
	}
}

func TestLongestLife(t *testing.T) {
	// To the left there is one line; straight on there is one, and another one behind it.
	wantLongest(t, wormOf("3x3:010100000:010000000:1,1,0"), 2, "NLR", "NRL", "RNL")
	wantLongest(t, wormOf("3x3:000100000:000000000:1,1,0"), 1, allTastes()...)
	wantLongest(t, wormOf("3x3:000000000:000000000:1,1,0"), 0, allTastes()...)
	wantLongest(t, fullWorm(3, 3), 14, "LNR", "RNL")
	// A row around the grid, and a line up from it to a dead end, to which the second step leads with one taste alone.
	wantLongest(t, wormOf("3x3:000111000:100000000:1,1,0"), 3, "LNR", "NLR", "NRL", "RLN", "RNL")
	// A line in a row around the grid: no taste matters.
	wantLongest(t, wormOf("3x3:111000000:000000000:0,0,1"), 3, allTastes()...)
	wantLongest(t, wormOf("3x3:111000000:000000000:0,0,0"), 3, allTastes()...)
}

func TestOddNodesAndPiecesLeft(t *testing.T) {
	for _, c := range []struct {
		text   string
		odd    []int
		pieces int
	}{
		{"3x3:000000000:000000000:0,0,0", nil, 9}, {"3x3:111111111:111111111:0,0,0", nil, 1},
		{"3x3:100000000:000000000:0,0,0", []int{0, 1}, 8}, {"3x3:001000000:000000000:0,0,0", []int{0, 2}, 8}, {"3x3:000000001:000000000:0,0,0", []int{6, 8}, 8},
		{"3x3:000000000:000000100:0,0,0", []int{0, 6}, 8}, {"3x3:000000000:000000001:0,0,0", []int{2, 8}, 8}, {"3x3:000000000:000100000:0,0,0", []int{3, 6}, 8},
		{"3x3:111111111:000000000:0,0,0", nil, 3}, {"3x3:000000000:111111111:0,0,0", nil, 3}, {"3x3:110110110:000000000:0,0,0", []int{0, 2, 3, 5, 6, 8}, 3},
		{"3x3:000110000:010010000:0,0,0", []int{1, 3, 5, 7}, 5}, {"3x3:111000000:010000000:0,0,0", []int{1, 4}, 6}, {"3x3:000100100:000110000:0,0,3", nil, 6},
		{"3x3:011111111:111111111:0,0,0", []int{0, 1}, 1}, {"3x3:110111111:111111111:2,0,3", []int{0, 2}, 1},
		{"3x3:110110110:001100000:0,0,0", []int{0, 8}, 1}, {"3x3:111000000:000100000:0,0,0", []int{3, 6}, 6},
		{"4x3:" + strings.Repeat("1", 12) + ":" + strings.Repeat("0", 12) + ":0,0,0", nil, 3}, {"4x3:" + strings.Repeat("0", 12) + ":" + strings.Repeat("1", 12) + ":0,0,0", nil, 4},
		{wormName(bareWorm(6, 6)), nil, 36}, {wormName(fullWorm(6, 6)), nil, 1}, {wormName(bareWorm(3, 6)), nil, 18}, {wormName(fullWorm(6, 3)), nil, 1},
	} {
		w := wormOf(c.text)
		odd, ok := impl.OddNodes(w)
		wantList(t, "OddNodes of "+c.text, odd, ok, c.odd...)
		n, ok := impl.PiecesLeft(w)
		wantNumber(t, "PiecesLeft of "+c.text, n, ok, c.pieces, true)
	}
}

func TestShiftWorm(t *testing.T) {
	text := "3x3:010100000:001000010:1,2,3"
	for _, c := range []struct {
		right, down int
		want        string
	}{
		{0, 0, text}, {1, 0, "3x3:001010000:100000001:2,2,3"}, {0, 1, "3x3:000010100:010001000:1,0,3"}, {2, 2, "3x3:001000100:000100010:0,1,3"},
	} {
		got, ok := impl.ShiftWorm(wormOf(text), c.right, c.down)
		wantWorm(t, "ShiftWorm by "+strconv.Itoa(c.right)+" and "+strconv.Itoa(c.down), got, ok, wormOf(c.want))
	}
	wide, ok := impl.ShiftWorm(wormOf("4x3:100000000000:000000000100:0,2,0"), 3, 2)
	wantWorm(t, "ShiftWorm by the last column and row", wide, ok, wormOf("4x3:000000000001:000010000000:3,1,0"))
	high, ok := impl.ShiftWorm(wormOf("3x4:100000000000:000000000010:2,0,1"), 2, 3)
	wantWorm(t, "ShiftWorm by the last column and row", high, ok, wormOf("3x4:000000000001:000000100000:1,3,1"))
}

func TestWormTextAndParseWorm(t *testing.T) {
	for _, text := range []string{
		"3x3:111111111:111111111:0,0,0", "3x3:000000000:000000000:2,2,3", "3x4:110101001101:011110000111:2,3,1", "4x3:110101001101:011110000111:3,2,2",
		"6x6:" + strings.Repeat("10", 18) + ":" + strings.Repeat("011", 12) + ":5,5,3",
	} {
		got, ok := impl.ParseWorm(text)
		wantWorm(t, "ParseWorm of "+text, got, ok, wormOf(text))
		again, ok := impl.WormText(wormOf(text))
		wantText(t, "WormText", again, ok, text, true)
	}
}

func TestResultsOfWormsAreNewlyAllocated(t *testing.T) {
	w := wormOf("3x3:010100000:010000000:1,1,0")
	spoilWorm := func() {
		track, _ := impl.TrackOfWorm(w, "NLR")
		spoil(track)
		odd, _ := impl.OddNodes(w)
		spoil(odd)
		best, _, _ := impl.LongestLife(w)
		best = best[:cap(best)]
		for i := range best {
			best[i] = "spoilt"
		}
	}
	for range 3 {
		spoilWorm()
		track, ok := impl.TrackOfWorm(w, "NLR")
		wantList(t, "TrackOfWorm again", track, ok, 4, 1, 2)
		odd, ok := impl.OddNodes(w)
		wantList(t, "OddNodes again", odd, ok, 2, 3)
		wantLongest(t, w, 2, "NLR", "NRL", "RNL")
	}
	spoilWorm()
	for _, taste := range allTastes() {
		if !impl.IsTaste(taste) {
			t.Errorf("%s is no taste any more", taste)
		}
	}
}
