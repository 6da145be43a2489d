package tests

import (
	"slices"
	"testing"

	"loop.example/g01276/impl"
)

// comesTo returns the least number of steps, from least up to 4000, behind which a world is as it is looked for, found by steps from the document's words alone.
func comesTo(w impl.World, least int, isFound func(impl.World) bool) (int, bool) {
	for steps := 0; steps <= 4000; steps++ {
		if steps >= least && isFound(w) {
			return steps, true
		}
		_, w = plainStep(w)
	}
	return 0, false
}

// plainTrack returns the cells in which the ant is before each of so many steps.
func plainTrack(w impl.World, steps int) []int {
	var track []int
	for range steps {
		track = append(track, w.Width*w.Y+w.X)
		_, w = plainStep(w)
	}
	return track
}

// plainVisits returns how often each cell of a world is on such a track.
func plainVisits(w impl.World, steps int) []int {
	visits := make([]int, w.Width*w.Height)
	for _, cell := range plainTrack(w, steps) {
		visits[cell]++
	}
	return visits
}

// plainCells returns the Cells with so many colours.
func plainCells(colours, cells int) []string {
	texts := []string{""}
	for range cells {
		var longer []string
		for _, text := range texts {
			for colour := range colours {
				longer = append(longer, text+string("012345"[colour]))
			}
		}
		texts = longer
	}
	return texts
}

// plainWorlds returns all worlds of a rule and a size.
func plainWorlds(rule string, width, height int) []impl.World {
	var worlds []impl.World
	for _, cells := range plainCells(len(rule), width*height) {
		for x := range width {
			for y := range height {
				for way := range 4 {
					worlds = append(worlds, impl.World{Rule: rule, Width: width, Height: height, Cells: cells, X: x, Y: y, Way: way})
				}
			}
		}
	}
	return worlds
}

// plainLoops returns how many loops of each length these worlds have.
func plainLoops(worlds []impl.World) map[int]int {
	loops := map[int]int{}
	seen := map[impl.World]bool{}
	for _, w := range worlds {
		length := 0
		for ; !seen[w]; length++ {
			seen[w] = true
			_, w = plainStep(w)
		}
		if length > 0 {
			loops[length]++
		}
	}
	return loops
}

// plainCount returns how many worlds with so many colours and cells there are, or ok false if there are more than 3000.
func plainCount(colours, cells int) (count int, ok bool) {
	different := 1
	for range cells {
		if different *= colours; different > 3000 {
			return 0, false
		}
	}
	return different * cells * 4, different*cells*4 <= 3000
}

// wantNumber checks a number and whether the call succeeded.
func wantNumber(t *testing.T, call string, got int, ok bool, want int, fine bool) {
	t.Helper()
	if got != want || ok != fine {
		t.Errorf("%s is %d, %v; want %d, %v", call, got, ok, want, fine)
	}
}

// wantList checks that a call succeeded with a list.
func wantList(t *testing.T, call string, got []int, ok bool, want ...int) {
	t.Helper()
	if !ok || !slices.Equal(got, want) {
		t.Errorf("%s is %v, %v; want %v", call, got, ok, want)
	}
}

// wantRows checks that a call succeeded with a list of lists.
func wantRows(t *testing.T, call string, got [][]int, ok bool, want [][]int) {
	t.Helper()
	if !ok || !slices.EqualFunc(got, want, slices.Equal) {
		t.Errorf("%s is %v, %v; want %v", call, got, ok, want)
	}
}
