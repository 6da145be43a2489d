package tests

import (
	"testing"

	"loop.example/g01276/impl"
)

// These are tests of the second promise: steps on endless boards are undone, and moved, turned and mirrored boards go alike.

func TestStepsOnPlainsAreUndone(t *testing.T) {
	for _, p := range samplePlains() {
		next, ok := impl.StepPlain(p)
		back, fine := impl.PlainBefore(next, 1)
		wantPlain(t, "PlainBefore 1 of StepPlain", back, ok && fine, p)
		before, ok := impl.PlainBefore(p, 1)
		again, fine := impl.StepPlain(before)
		wantPlain(t, "StepPlain of PlainBefore 1", again, ok && fine, p)
	}
}

func TestManyStepsOnPlainsAreUndone(t *testing.T) {
	for _, p := range samplePlains() {
		for _, steps := range []int{0, 1, 2, 5, 97, 200} {
			after, ok := impl.PlainAfter(p, steps)
			back, fine := impl.PlainBefore(after, steps)
			wantPlain(t, "PlainBefore of PlainAfter", back, ok && fine, p)
			before, ok := impl.PlainBefore(p, steps)
			again, fine := impl.PlainAfter(before, steps)
			wantPlain(t, "PlainAfter of PlainBefore", again, ok && fine, p)
		}
	}
}

func TestTheMostStepsOnPlainsAreUndone(t *testing.T) {
	undone := 0
	for _, p := range samplePlains() {
		after, ok := impl.PlainAfter(p, impl.MaxGoing)
		if !ok {
			continue
		}
		undone++
		back, fine := impl.PlainBefore(after, impl.MaxGoing)
		wantPlain(t, "PlainBefore of PlainAfter the most steps", back, fine, p)
	}
	if undone < 20 {
		t.Errorf("only %d plains were undone", undone)
	}
}

// Each plain on the way is looked at, so that a call fails just where one of them is none.
func TestStepsOnPlainsAreThoseOfTheDocument(t *testing.T) {
	for _, p := range samplePlains() {
		q, signs, good := p, "", true
		for steps := 0; steps <= impl.MaxGoing && good; steps++ {
			if steps > 0 {
				sign, next := walked(q, 1)
				q, signs = next, signs+sign
			}
			good = impl.IsPlain(q)
			if good && steps > 10 && steps%111 != 0 && steps != impl.MaxGoing {
				continue
			}
			got, ok := impl.PlainAfter(p, steps)
			turns, fine := impl.TurnsOfPlain(p, steps)
			if !good {
				q, signs = impl.Plain{}, ""
			}
			if ok != good || fine != good || !samePlain(got, q) || turns != signs {
				t.Errorf("%d steps of %+v lead to %+v, %v, and are %q, %v; want %+v, and %q", steps, p, got, ok, turns, fine, q, signs)
			}
		}
	}
}

func TestDriftsAreThoseOfTheDocument(t *testing.T) {
	for _, p := range samplePlains() {
		for _, c := range [][2]int{{0, 1}, {1, 1}, {5, 0}, {17, 30}, {50, 104}} {
			_, before := walked(p, c[0])
			_, behind := walked(p, c[0]+c[1])
			right, down, ok := impl.DriftOf(p, c[0], c[1])
			if right != behind.X-before.X || down != behind.Y-before.Y || !ok {
				t.Errorf("DriftOf %v of %+v is %d %d, %v", c, p, right, down, ok)
			}
		}
	}
}

// isRoad tells what IsHighway should, from the signs and the ants of the document's words.
func isRoad(p impl.Plain, steps, period int) bool {
	var ants [4]impl.Plain
	var signs string
	for i := range ants {
		signs, ants[i] = walked(p, steps+i*period)
	}
	signs = signs[steps:]
	right, down := ants[1].X-ants[0].X, ants[1].Y-ants[0].Y
	for i := 1; i < 3; i++ {
		if signs[:period] != signs[i*period:(i+1)*period] || ants[i+1].X-ants[i].X != right || ants[i+1].Y-ants[i].Y != down {
			return false
		}
	}
	return right != 0 || down != 0
}

func TestHighwaysAreThoseOfTheDocument(t *testing.T) {
	roads := 0
	for _, p := range samplePlains() {
		for steps := 0; steps <= 40; steps += 8 {
			for period := 1; period <= 20; period++ {
				want := isRoad(p, steps, period)
				if got, ok := impl.IsHighway(p, steps, period); got != want || !ok {
					t.Errorf("IsHighway %d %d of %+v is %v, %v", steps, period, p, got, ok)
				}
				if want {
					roads++
				}
			}
		}
	}
	if roads < 20 {
		t.Errorf("there are only %d highways", roads)
	}
}

// pictures returns the ways in which the same plain is seen from elsewhere.
func pictures() map[string]func(impl.Plain) (impl.Plain, bool) {
	return map[string]func(impl.Plain) (impl.Plain, bool){
		"MovePlain":   func(p impl.Plain) (impl.Plain, bool) { return impl.MovePlain(p, -31, 17) },
		"TurnPlain":   impl.TurnPlain,
		"MirrorPlain": impl.MirrorPlain,
	}
}

func TestPicturesOfPlainsGoAlike(t *testing.T) {
	for _, p := range samplePlains() {
		for _, steps := range []int{1, 33, 200} {
			after, one := impl.PlainAfter(p, steps)
			before, two := impl.PlainBefore(p, steps)
			for name, picture := range pictures() {
				first, three := picture(p)
				got, fine := impl.PlainAfter(first, steps)
				want, good := picture(after)
				wantPlain(t, "PlainAfter of "+name, got, one && two && three && fine && good, want)
				got, fine = impl.PlainBefore(first, steps)
				want, good = picture(before)
				wantPlain(t, "PlainBefore of "+name, got, fine && good, want)
			}
		}
	}
}

func TestPicturesOfPlainsTurnAndDriftAlike(t *testing.T) {
	for _, p := range samplePlains() {
		turns, _ := impl.TurnsOfPlain(p, 60)
		right, down, _ := impl.DriftOf(p, 20, 40)
		for name, picture := range pictures() {
			q, _ := picture(p)
			wantTurns, wantRight, wantDown := turns, right, down
			switch name {
			case "TurnPlain":
				wantRight, wantDown = -down, right
			case "MirrorPlain":
				wantRight = -right
				wantTurns = exchangedSigns(turns)
			}
			gotTurns, one := impl.TurnsOfPlain(q, 60)
			gotRight, gotDown, two := impl.DriftOf(q, 20, 40)
			if gotTurns != wantTurns || gotRight != wantRight || gotDown != wantDown || !one || !two {
				t.Errorf("%s of %+v goes %s %d %d; want %s %d %d", name, p, gotTurns, gotRight, gotDown, wantTurns, wantRight, wantDown)
			}
		}
	}
}

// exchangedSigns returns signs with L and R exchanged.
func exchangedSigns(signs string) string {
	other := []byte(signs)
	for i, sign := range other {
		if sign == 'L' {
			other[i] = 'R'
		} else if sign == 'R' {
			other[i] = 'L'
		}
	}
	return string(other)
}

func TestMovesTurnsAndMirrorsOfPlainsAreUndone(t *testing.T) {
	for _, p := range append(samplePlains(), limitPlains()...) {
		turned := p
		for range 4 {
			turned, _ = impl.TurnPlain(turned)
		}
		wantPlain(t, "TurnPlain four times", turned, true, p)
		mirrored, _ := impl.MirrorPlain(p)
		mirrored, ok := impl.MirrorPlain(mirrored)
		wantPlain(t, "MirrorPlain twice", mirrored, ok, p)
	}
	for _, p := range samplePlains() {
		moved, _ := impl.MovePlain(p, 900, -900)
		moved, ok := impl.MovePlain(moved, -900, 900)
		wantPlain(t, "MovePlain forth and back", moved, ok, p)
	}
}

func TestPlainsOfWorldsGoAsWorldsDo(t *testing.T) {
	for _, w := range sampleWorlds() {
		if w.Width < 9 || w.Height < 9 {
			continue
		}
		w.X, w.Y = 4, 4 // in 4 steps the ant does not come to an edge
		p, ok := impl.PlainOfWorld(w)
		after, _ := impl.WorldAfter(w, 4)
		want, fine := impl.PlainOfWorld(after)
		got, good := impl.PlainAfter(p, 4)
		wantPlain(t, "PlainAfter of PlainOfWorld", got, ok && fine && good, want)
	}
}
