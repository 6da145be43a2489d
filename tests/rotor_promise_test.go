package tests

import (
	"slices"
	"strconv"
	"testing"

	"loop.example/g01276/impl"
)

// These are tests of the fifth promise: rotors send walkers along their lines evenly, and loops come again.

// walksOf calls a function with each node of a route at which a walker may be, and a name of both.
func walksOf(r impl.Route, f func(at int, what string)) {
	for at := range r.Out {
		f(at, " of "+routeName(r)+"from "+strconv.Itoa(at))
	}
}

func TestWalkersGoByTheirRotors(t *testing.T) {
	for _, r := range sampleRoutes() {
		walksOf(r, func(at int, what string) {
			for _, steps := range []int{0, 1, 2, 3, 7, 50, 199, 200, 201, 1000, 3000} {
				want := plainTake(r, at, steps)
				got, to, ok := impl.WalkAfter(r, at, steps)
				wantRoute(t, "WalkAfter"+what, got, ok, want.route)
				wantNumber(t, "where WalkAfter"+what+" leads", to, ok, want.at, true)
				visits, ok := impl.VisitsOfWalk(r, at, steps)
				wantList(t, "VisitsOfWalk"+what, visits, ok, want.visits...)
				used, ok := impl.LinesUsed(r, at, steps)
				wantRows(t, "LinesUsed"+what, used, ok, want.used)
				if steps <= 200 {
					track, ok := impl.TrackOfWalk(r, at, steps)
					wantList(t, "TrackOfWalk"+what, track, ok, want.track...)
				}
			}
		})
	}
}

// Steps that are made one after the other are those that are made at once.
func TestStepsOfWalksAddUp(t *testing.T) {
	for _, r := range sampleRoutes() {
		walksOf(r, func(at int, what string) {
			now, node, ok := r, at, true
			for steps := 1; steps <= 30; steps++ {
				turned, fine := impl.TurnRotor(now, node)
				now, node, ok = impl.StepRoute(now, node)
				wantRoute(t, "TurnRotor"+what, turned, fine, now)
				want, to, _ := impl.WalkAfter(r, at, steps)
				wantRoute(t, "StepRoute"+what, now, ok, want)
				wantNumber(t, "where StepRoute"+what+" leads", node, ok, to, true)
			}
			rest, to, ok := impl.WalkAfter(now, node, 2970)
			want, end, _ := impl.WalkAfter(r, at, 3000)
			wantRoute(t, "WalkAfter"+what, rest, ok, want)
			wantNumber(t, "where WalkAfter"+what+" leads", to, ok, end, true)
		})
	}
}

func TestLinesAreUsedEvenly(t *testing.T) {
	for _, r := range sampleRoutes() {
		walksOf(r, func(at int, what string) {
			for _, steps := range []int{0, 1, 5, 77, 2999, 3000} {
				used, ok := impl.LinesUsed(r, at, steps)
				visits, fine := impl.VisitsOfWalk(r, at, steps)
				if !ok || !fine || len(used) != len(r.Out) {
					t.Fatalf("LinesUsed%s is %v, %v", what, used, ok)
				}
				came, all := make([]int, len(r.Out)), 0
				for node, lines := range used {
					if len(lines) != len(r.Out[node]) || slices.Max(lines)-slices.Min(lines) > 1 {
						t.Errorf("LinesUsed%s in %d steps is %v", what, steps, used)
					}
					for index, count := range lines {
						came[r.Out[node][index]] += count
						all += count
					}
				}
				wantList(t, "VisitsOfWalk"+what, visits, fine, came...)
				wantNumber(t, "all lines used"+what, all, ok, steps, true)
			}
		})
	}
}

func TestLoopsOfWalksComeAgain(t *testing.T) {
	loops := 0
	for _, r := range sampleRoutes() {
		walksOf(r, func(at int, what string) {
			wantBefore, wantLength, fine := plainWalkLoop(r, at)
			before, length, ok := impl.WalkLoop(r, at)
			wantPair(t, "WalkLoop"+what, before, length, ok, wantBefore, wantLength, fine)
			if !ok {
				return
			}
			loops++
			first, node, _ := impl.WalkAfter(r, at, before)
			again, to, fine := impl.WalkAfter(r, at, before+length)
			wantRoute(t, "WalkAfter a loop"+what, again, fine, first)
			wantNumber(t, "where a loop"+what+" leads", to, fine, node, true)
			// Behind the steps before the loop a walk is in it, and its loop is told so.
			zero, same, ok := impl.WalkLoop(first, node)
			wantPair(t, "WalkLoop in the loop"+what, zero, same, ok, 0, length, true)
		})
	}
	if loops < 300 {
		t.Errorf("only %d walks come again", loops)
	}
}

// On a ring and on a line a loop takes each line once.
func TestLoopsOfRingsAndLines(t *testing.T) {
	for nodes := 1; nodes <= impl.MaxNodes; nodes++ {
		ring, _ := impl.RingRoute(nodes)
		walksOf(ring, func(at int, what string) {
			before, length, ok := impl.WalkLoop(ring, at)
			wantPair(t, "WalkLoop"+what, before, length, ok, 0, 2*nodes, true)
		})
		line, ok := impl.LineRoute(nodes)
		if ok != (nodes > 1) {
			t.Errorf("LineRoute of %d is %+v, %v", nodes, line, ok)
		}
		walksOf(line, func(at int, what string) {
			before, length, ok := impl.WalkLoop(line, at)
			wantPair(t, "WalkLoop"+what, before, length, ok, before, 2*(nodes-1), true)
			in, node, _ := impl.WalkAfter(line, at, before)
			used, ok := impl.LinesUsed(in, node, length)
			want := make([][]int, nodes)
			for i, lines := range line.Out {
				want[i] = slices.Repeat([]int{1}, len(lines))
			}
			wantRows(t, "LinesUsed in the loop"+what, used, ok, want)
		})
	}
}

func TestWalkersComeToGoals(t *testing.T) {
	missed := 0
	for _, r := range sampleRoutes() {
		reach := plainReach(r)
		walksOf(r, func(at int, what string) {
			track := plainTake(r, at, 3000).track
			for goal := range r.Out {
				steps := slices.Index(track, goal) + 1
				n, ok := impl.StepsToNode(r, at, goal)
				wantNumber(t, "StepsToNode"+what+" to "+strconv.Itoa(goal), n, ok, steps, steps > 0)
				is, ok := impl.CanWalk(r, at, goal)
				if is != reach[at][goal] || !ok {
					t.Errorf("CanWalk%s to %d is %v, %v", what, goal, is, ok)
				}
				if is && steps == 0 && at != goal {
					missed++
				}
			}
		})
	}
	if missed < 20 {
		t.Errorf("only %d goals are reached by lines and not by walkers", missed)
	}
}

func TestWalkersAreSentToEnds(t *testing.T) {
	n := &numbers{last: 67}
	failed, sent := 0, 0
	for _, r := range sampleRoutes() {
		walksOf(r, func(at int, what string) {
			var ends []int
			for len(ends) == 0 {
				for node := range r.Out {
					if n.below(3) == 0 {
						ends = slices.Insert(ends, n.below(len(ends)+1), node)
					}
				}
			}
			for _, count := range []int{0, 1, 2, 13, 100} {
				want, fine := plainSent(r, at, ends, count)
				got, ok := impl.SendWalkers(r, at, ends, count)
				if !slices.Equal(got, want) || ok != fine {
					t.Errorf("SendWalkers%s is %v, %v; want %v, %v", what, got, ok, want, fine)
				}
				if !ok {
					failed++
					continue
				}
				sent++
				all := 0
				for _, came := range got {
					all += came
				}
				wantNumber(t, "all walkers sent"+what, all, ok, count, true)
			}
		})
	}
	if failed < 50 || sent < 500 {
		t.Errorf("%d calls fail, and %d do not", failed, sent)
	}
}

// Walkers from the middle of a line come to both its ends in turn.
func TestWalkersAreSentEvenly(t *testing.T) {
	for nodes := 3; nodes <= 9; nodes += 2 {
		line, _ := impl.LineRoute(nodes)
		for count := range 101 {
			sent, ok := impl.SendWalkers(line, nodes/2, []int{0, nodes - 1}, count)
			wantList(t, "SendWalkers of "+strconv.Itoa(count), sent, ok, (count+1)/2, count/2)
		}
	}
}

func TestRoutesAreReset(t *testing.T) {
	for _, r := range sampleRoutes() {
		zero, ok := impl.ResetRoute(r)
		wantRoute(t, "ResetRoute of "+routeName(r), zero, ok, impl.Route{Out: r.Out, Rotor: make([]int, len(r.Out))})
		for node, nodes := range r.Out {
			turned := r
			for index := range nodes {
				turned, ok = impl.TurnRotor(turned, node)
				want := copyOfRoute(r)
				want.Rotor[node] = (r.Rotor[node] + 1 + index) % len(nodes)
				wantRoute(t, "TurnRotor of "+routeName(r), turned, ok, want)
			}
			wantRoute(t, "TurnRotor around of "+routeName(r), turned, ok, r)
		}
	}
}

// The full cells are as many as the walkers, and as many to the left as to the right.
func TestLinesAreFilledEvenly(t *testing.T) {
	last := 0
	for walkers := 1; walkers <= 40; walkers++ {
		what := " of " + strconv.Itoa(walkers)
		wantLeast, wantGreatest, wantSteps := plainFill(walkers)
		least, greatest, ok := impl.FillLine(walkers)
		wantPair(t, "FillLine"+what, least, greatest, ok, wantLeast, wantGreatest, true)
		steps, ok := impl.FillSteps(walkers)
		wantNumber(t, "FillSteps"+what, steps, ok, wantSteps, true)
		if greatest-least+1 != walkers || -least-greatest < 0 || -least-greatest > 1 {
			t.Errorf("FillLine%s is %d, %d", what, least, greatest)
		}
		if steps < last {
			t.Errorf("FillSteps%s is %d, and %d before", what, steps, last)
		}
		last = steps
	}
}

func TestMaxWalkIsMetExactly(t *testing.T) {
	for _, c := range limitRoutes() {
		what := " of " + routeName(c.route)
		if c.steps > 0 {
			n, ok := impl.StepsToNode(c.route, c.at, c.goal)
			if c.steps > 3000 {
				wantNumber(t, "StepsToNode"+what, n, ok, 0, false)
			} else {
				wantNumber(t, "StepsToNode"+what, n, ok, c.steps, true)
			}
		}
		if c.length > 0 {
			before, length, ok := impl.WalkLoop(c.route, c.at)
			if c.before+c.length > 3000 {
				wantPair(t, "WalkLoop"+what, before, length, ok, 0, 0, false)
			} else {
				wantPair(t, "WalkLoop"+what, before, length, ok, c.before, c.length, true)
			}
		}
		if c.walkers > 0 {
			for _, count := range []int{0, 1, 2, 3, 100} {
				want := []int{count}
				if count >= c.walkers {
					want = nil
				}
				got, ok := impl.SendWalkers(c.route, c.at, []int{c.goal}, count)
				if !slices.Equal(got, want) || ok != (count < c.walkers) {
					t.Errorf("SendWalkers%s and %d is %v, %v", what, count, got, ok)
				}
			}
		}
	}
}
