package tests

import (
	"testing"

	"loop.example/g01276/impl"
)

// These are tests of the first promise: steps are undone, and each step makes the sum of colours greater by one, around.

func TestStepsAreUndone(t *testing.T) {
	for _, w := range sampleWorlds() {
		next, ok := impl.StepWorld(w)
		back, fine := impl.StepBack(next)
		if !ok || !fine || back != w {
			t.Errorf("StepBack of StepWorld of %+v is %+v", w, back)
		}
		before, ok := impl.StepBack(w)
		again, fine := impl.StepWorld(before)
		if !ok || !fine || again != w {
			t.Errorf("StepWorld of StepBack of %+v is %+v", w, again)
		}
	}
}

func TestManyStepsAreUndone(t *testing.T) {
	for _, w := range sampleWorlds() {
		for _, steps := range []int{0, 1, 2, 5, 97, impl.MaxSteps} {
			after, ok := impl.WorldAfter(w, steps)
			back, fine := impl.WorldBefore(after, steps)
			if !ok || !fine || back != w {
				t.Errorf("WorldBefore %d of WorldAfter %d of %+v is %+v", steps, steps, w, back)
			}
			before, ok := impl.WorldBefore(w, steps)
			again, fine := impl.WorldAfter(before, steps)
			if !ok || !fine || again != w {
				t.Errorf("WorldAfter %d of WorldBefore %d of %+v is %+v", steps, steps, w, again)
			}
		}
	}
}

func TestEachStepMakesTheSumGreaterByOne(t *testing.T) {
	for _, w := range sampleWorlds() {
		colours := len(w.Rule)
		for range 200 {
			next, ok := impl.StepWorld(w)
			if !ok || (colourSum(w)+1)%colours != colourSum(next)%colours {
				t.Fatalf("the sum is %d before and %d behind a step of %+v", colourSum(w), colourSum(next), w)
			}
			w = next
		}
	}
}

func TestStepsAreThoseOfTheDocument(t *testing.T) {
	for _, w := range sampleWorlds() {
		for _, steps := range []int{0, 1, 2, 3, 4, 7, 8, 9, 250, impl.MaxSteps - 1, impl.MaxSteps} {
			signs, want := plainSteps(w, steps)
			if got, ok := impl.WorldAfter(w, steps); !ok || got != want {
				t.Errorf("WorldAfter %d of %+v is %+v, %v; want %+v", steps, w, got, ok, want)
			}
			if got, ok := impl.TurnsAfter(w, steps); !ok || got != signs {
				t.Errorf("TurnsAfter %d of %+v is %q, %v; want %q", steps, w, got, ok, signs)
			}
			if got, ok := impl.WorldBefore(want, steps); !ok || got != w {
				t.Errorf("WorldBefore %d of %+v is %+v, %v; want %+v", steps, want, got, ok, w)
			}
		}
	}
}

func TestAllSmallWorldsStepAndComeFromJustOne(t *testing.T) {
	const rule, width, height = "LRU", 2, 2
	come := map[impl.World]bool{}
	count := 0
	for cells := range 81 {
		for place := range 16 {
			w := impl.World{Rule: rule, Width: width, Height: height, X: place / 4 % 2, Y: place / 8, Way: place % 4}
			for rest, left := cells, 4; left > 0; left-- {
				w.Cells += string(rune('0' + rest%3))
				rest /= 3
			}
			_, want := plainStep(w)
			next, ok := impl.StepWorld(w)
			if !ok || next != want {
				t.Fatalf("StepWorld of %+v is %+v, %v; want %+v", w, next, ok, want)
			}
			come[next] = true
			count++
		}
	}
	if len(come) != count {
		t.Errorf("%d worlds lead to %d", count, len(come))
	}
}

func TestBackWorldLeadsBack(t *testing.T) {
	for _, w := range sampleWorlds() {
		reversed, ok := impl.BackWorld(w)
		if twice, fine := impl.BackWorld(reversed); !ok || !fine || twice != w {
			t.Errorf("BackWorld twice of %+v is %+v", w, twice)
		}
		next, _ := impl.StepWorld(w)
		ahead, ok := impl.BackWorld(next)
		if got, fine := impl.StepWorld(ahead); !ok || !fine || got != reversed {
			t.Errorf("StepWorld of BackWorld of StepWorld of %+v is %+v; want %+v", w, got, reversed)
		}
		before, _ := impl.WorldBefore(w, 40)
		want, _ := impl.BackWorld(before)
		if got, fine := impl.WorldAfter(reversed, 40); !fine || got != want {
			t.Errorf("40 steps of BackWorld of %+v lead to %+v; want %+v", w, got, want)
		}
	}
}

// Shifted, turned and mirrored worlds are other pictures of the same steps.
func TestPicturesOfWorldsGoAlike(t *testing.T) {
	for _, w := range sampleWorlds() {
		pictures := map[string]func(impl.World) (impl.World, bool){
			"ShiftWorld": func(v impl.World) (impl.World, bool) {
				return impl.ShiftWorld(v, v.Width-1, v.Height/2)
			},
			"TurnWorld":   impl.TurnWorld,
			"MirrorWorld": impl.MirrorWorld,
		}
		after, _ := impl.WorldAfter(w, 33)
		for name, picture := range pictures {
			first, ok := picture(w)
			got, one := impl.WorldAfter(first, 33)
			want, two := picture(after)
			if !ok || !one || !two || got != want {
				t.Errorf("33 steps of %s of %+v lead to %+v; want %+v", name, w, got, want)
			}
		}
	}
}
