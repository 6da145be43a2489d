package tests

import (
	"slices"
	"strconv"
	"testing"

	"loop.example/g01276/impl"
)

// These are tests of promise 8: worms eat a line with each step, and fresh ones die where they began.

func TestWormsLiveAsTold(t *testing.T) {
	lives := map[bool]int{}
	for _, w := range sampleWorms() {
		for _, taste := range allTastes() {
			life := lifeOf(w, taste)
			wantLife(t, w, taste, life)
			lives[life.steps() > 0]++
		}
	}
	if lives[true] < 500 || lives[false] < 200 {
		t.Errorf("%d worms go on, and %d die at once", lives[true], lives[false])
	}
}

// Each step leaves one line less, and the node where it leads from and that where it leads to with one line less each.
func TestEachStepEatsALine(t *testing.T) {
	for _, w := range sampleWorms() {
		for _, taste := range allTastes() {
			left, _ := impl.LinesLeft(w)
			steps, ok := impl.LifeOf(w, taste)
			for made, now := 0, w; ok && made < steps; made++ {
				next, fine := impl.EatLine(now, taste)
				n, good := impl.LinesLeft(next)
				wantNumber(t, "LinesLeft behind a step of "+wormName(now), n, fine && good, left-made-1, true)
				for node := range w.Width * w.Height {
					before, _ := impl.LinesAt(now, node%w.Width, node/w.Width)
					if x, y := node%w.Width, node/w.Width; x == now.X && y == now.Y || x == next.X && y == next.Y {
						before--
					}
					n, good := impl.LinesAt(next, node%w.Width, node/w.Width)
					wantNumber(t, "LinesAt "+strconv.Itoa(node)+" behind a step of "+wormName(now), n, good, before, true)
				}
				now = next
			}
			death, _ := impl.DeathOf(w, taste)
			n, ok := impl.LinesLeft(death)
			wantNumber(t, "LinesLeft where "+wormName(w)+" dies", n, ok, left-steps, true)
		}
	}
}

func TestFreshWormsDieWhereTheyBegan(t *testing.T) {
	for _, size := range gridSizes() {
		w, ok := impl.FreshWorm(size[0], size[1])
		if !ok {
			t.Fatalf("FreshWorm of %v fails", size)
		}
		for _, taste := range allTastes() {
			wantLife(t, w, taste, lifeOf(w, taste))
			death, ok := impl.DeathOf(w, taste)
			if !ok || death.X != 0 || death.Y != 0 {
				t.Errorf("DeathOf %s with %s is %s, %v", wormName(w), taste, wormName(death), ok)
			}
			n, ok := impl.LinesAt(death, 0, 0)
			wantNumber(t, "LinesAt the node where a fresh worm died", n, ok, 0, true)
			track, ok := impl.TrackOfWorm(w, taste)
			if !ok || track[0] != 0 || track[len(track)-1] != 0 {
				t.Errorf("TrackOfWorm of %s with %s is %v, %v", wormName(w), taste, track, ok)
			}
		}
	}
}

// So does each worm on a grid without odd nodes, wherever it is: what a fresh worm leaves is one.
func TestWormsOnEvenGridsDieWhereTheyBegan(t *testing.T) {
	for _, size := range [][2]int{{3, 3}, {3, 6}, {5, 4}, {6, 6}} {
		for _, first := range allTastes() {
			left, _ := impl.DeathOf(fullWorm(size[0], size[1]), first)
			odd, ok := impl.OddNodes(left)
			wantList(t, "OddNodes of "+wormName(left), odd, ok)
			for _, w := range placesOnGrid(left) {
				for _, taste := range allTastes() {
					death, ok := impl.DeathOf(w, taste)
					if !ok || death.X != w.X || death.Y != w.Y {
						t.Errorf("DeathOf %s with %s is %s, %v", wormName(w), taste, wormName(death), ok)
					}
				}
			}
		}
	}
}

// The worm behind so many steps is there up to its death, and not beyond: no worm makes 100 steps, as no grid has so many lines.
func TestWormsAfterAllNumbersOfSteps(t *testing.T) {
	longest := 0
	for _, w := range sampleWorms() {
		for _, taste := range allTastes() {
			life := lifeOf(w, taste)
			longest = max(longest, life.steps())
			for steps := range 101 {
				got, ok := impl.WormAfter(w, taste, steps)
				what := "WormAfter of " + wormName(w) + " with " + taste + " and " + strconv.Itoa(steps)
				if steps <= life.steps() {
					wantWorm(t, what, got, ok, life.worms[steps])
				} else {
					wantNoWorm(t, what, got, ok)
				}
			}
		}
	}
	if longest < 30 {
		t.Errorf("the longest life has %d steps", longest)
	}
}

// A worm goes on where it is, whatever it did before.
func TestWormsGoOnFromEachStep(t *testing.T) {
	n := &numbers{last: 67}
	for _, size := range gridSizes() {
		w := n.someWorm(size[0], size[1], 9)
		for _, taste := range allTastes() {
			life := lifeOf(w, taste)
			for made, now := range life.worms {
				wantLife(t, now, taste, plainLife{worms: life.worms[made:], track: life.track[made:], meals: life.meals[made:]})
			}
		}
	}
}

// Each step of a life is given back by the way before it.
func TestStepsAreGivenBack(t *testing.T) {
	for _, w := range sampleWorms() {
		for _, taste := range allTastes() {
			life := lifeOf(w, taste)
			for made := life.steps(); made > 0; made-- {
				before := life.worms[made-1]
				got, ok := impl.GiveBack(life.worms[made], before.Way)
				wantWorm(t, "GiveBack of "+wormName(life.worms[made]), got, ok, before)
			}
		}
	}
}

// A line is given back if, and only if, some step with some taste comes here so; another line than that makes another worm.
func TestWormsGiveBackWhatSomeStepEats(t *testing.T) {
	given := map[bool]int{}
	for _, w := range sampleWorms() {
		for way := range 4 {
			p := plainOfWorm(w)
			x, y := besideNode(w.Width, w.Height, w.X, w.Y, (w.Way+2)%4)
			line := p.lineOf(x, y, w.Way)
			fine := !p.lines[line] && (way+2)%4 != w.Way
			got, ok := impl.GiveBack(w, way)
			what := "GiveBack of " + wormName(w) + " and " + strconv.Itoa(way)
			given[fine]++
			if !fine {
				wantNoWorm(t, what, got, ok)
				continue
			}
			p.lines[line] = true
			p.x, p.y, p.way = x, y, way
			wantWorm(t, what, got, ok, p.worm())
			taste := map[int]string{0: "NLR", 1: "RLN", 3: "LNR"}[(w.Way-way+4)%4]
			again, ok := impl.EatLine(got, taste)
			wantWorm(t, "EatLine behind "+what, again, ok, w)
		}
	}
	if given[true] < 300 || given[false] < 300 {
		t.Errorf("%d lines are given back, and %d are not", given[true], given[false])
	}
}

func TestLongestLives(t *testing.T) {
	several, one := 0, 0
	for _, w := range sampleWorms() {
		longest := 0
		for _, taste := range allTastes() {
			longest = max(longest, lifeOf(w, taste).steps())
		}
		var best []string
		for _, taste := range allTastes() {
			if lifeOf(w, taste).steps() == longest {
				best = append(best, taste)
			}
		}
		wantLongest(t, w, longest, best...)
		if len(best) > 1 {
			several++
		} else {
			one++
		}
	}
	if several < 50 || one < 20 {
		t.Errorf("%d worms have several best tastes, and %d have one", several, one)
	}
}

// Lines are counted, nodes are odd and grids fall into pieces as told, for worms and for what they leave.
func TestNodesAndPieces(t *testing.T) {
	pieces := map[int]bool{}
	for _, sample := range sampleWorms() {
		death, _ := impl.DeathOf(sample, "RLN")
		for _, w := range []impl.Worm{sample, death} {
			what := " of " + wormName(w)
			n, ok := impl.LinesLeft(w)
			wantNumber(t, "LinesLeft"+what, n, ok, len(plainOfWorm(w).lines), true)
			for node, degree := range plainDegrees(w) {
				n, ok := impl.LinesAt(w, node%w.Width, node/w.Width)
				wantNumber(t, "LinesAt "+strconv.Itoa(node)+what, n, ok, degree, true)
			}
			odd, ok := impl.OddNodes(w)
			wantList(t, "OddNodes"+what, odd, ok, plainOdd(w)...)
			n, ok = impl.PiecesLeft(w)
			wantNumber(t, "PiecesLeft"+what, n, ok, plainPieces(w), true)
			pieces[n] = true
		}
	}
	if len(pieces) < 10 {
		t.Errorf("grids fall into %v pieces alone", pieces)
	}
}

// A step makes the nodes at its ends odd that were even, and the other way around.
func TestStepsChangeOddNodesAtTheirEnds(t *testing.T) {
	for _, w := range sampleWorms() {
		life := lifeOf(w, "LRN")
		for made, now := range life.worms {
			var want []int
			for node := range w.Width * w.Height {
				isOdd := slices.Contains(plainOdd(w), node)
				if isEnd := node == life.track[0] || node == life.track[made]; isEnd && life.track[0] != life.track[made] {
					isOdd = !isOdd
				}
				if isOdd {
					want = append(want, node)
				}
			}
			odd, ok := impl.OddNodes(now)
			wantList(t, "OddNodes of "+wormName(now), odd, ok, want...)
		}
	}
}

// A shifted worm lives like the worm, wherever it is shifted: by 0, by the last column and row, and in between.
func TestShiftedWormsLiveAlike(t *testing.T) {
	n := &numbers{last: 73}
	for _, size := range gridSizes() {
		w := n.someWorm(size[0], size[1], 8)
		for right := range w.Width {
			for down := range w.Height {
				what := "ShiftWorm of " + wormName(w) + " by " + strconv.Itoa(right) + " and " + strconv.Itoa(down)
				got, ok := impl.ShiftWorm(w, right, down)
				wantWorm(t, what, got, ok, plainShifted(w, right, down))
				taste := allTastes()[n.below(6)]
				life := lifeOf(w, taste)
				for i, worm := range life.worms {
					life.worms[i] = plainShifted(worm, right, down)
					life.track[i] = life.worms[i].Y*w.Width + life.worms[i].X
				}
				wantLife(t, got, taste, life)
				back, ok := impl.ShiftWorm(got, (w.Width-right)%w.Width, (w.Height-down)%w.Height)
				wantWorm(t, what+" and back", back, ok, w)
			}
		}
		same, ok := impl.ShiftWorm(w, 0, 0)
		wantWorm(t, "ShiftWorm by 0 and 0", same, ok, w)
	}
}

func TestTextsOfWormsAreReadBack(t *testing.T) {
	texts := map[string]bool{}
	worms := append(sampleWorms(), placesOnGrid(wormOf("4x5:11010100110100111010:01111000011110011011:0,0,0"))...)
	different := map[impl.Worm]bool{}
	for _, w := range worms {
		text, ok := impl.WormText(w)
		wantText(t, "WormText", text, ok, wormName(w), true)
		got, ok := impl.ParseWorm(text)
		wantWorm(t, "ParseWorm of "+text, got, ok, w)
		texts[text], different[w] = true, true
	}
	if len(texts) != len(different) {
		t.Errorf("%d worms have %d texts", len(different), len(texts))
	}
}
