package tests

import (
	"math"
	"runtime"
	"slices"
	"strconv"
	"sync"
	"testing"

	"loop.example/g01276/impl"
)

// These are tests of the promise that every function accepts all arguments, for rotors: invalid ones give zero values.

// wrongNumbers are no nodes and no indices of any route.
func wrongNumbers() []int {
	return []int{-1, 10, 11, 1 << 32, -1 << 32, math.MaxInt, math.MinInt}
}

func invalidRoutes() []impl.Route {
	valid := impl.Route{Out: [][]int{{1, 2, 0}, {1}, {0, 0, 1, 2}}, Rotor: []int{2, 0, 3}}
	routes := []impl.Route{
		{}, {Out: [][]int{}, Rotor: []int{}}, {Out: [][]int{{0}}}, {Rotor: []int{0}}, {Out: [][]int{{}}, Rotor: []int{0}}, {Out: [][]int{nil}, Rotor: []int{0}},
		plainRing(11), plainLineRoute(11), plainRing(1000),
		{Out: plainRing(10).Out, Rotor: make([]int, 11)}, {Out: plainRing(9).Out, Rotor: make([]int, 10)}, {Out: plainRing(10).Out, Rotor: make([]int, 9)},
		{Out: valid.Out, Rotor: nil}, {Out: valid.Out, Rotor: []int{2, 0}}, {Out: valid.Out, Rotor: []int{2, 0, 3, 0}},
		{Out: valid.Out[:2], Rotor: valid.Rotor}, {Out: valid.Out[:2], Rotor: []int{2, 0}},
	}
	change := func(f func(r *impl.Route)) {
		r := copyOfRoute(valid)
		f(&r)
		routes = append(routes, r)
	}
	for node := range valid.Out {
		for index := range valid.Out[node] {
			for _, n := range append(wrongNumbers(), 3) {
				change(func(r *impl.Route) { r.Out[node][index] = n })
			}
		}
		for _, n := range append(wrongNumbers(), len(valid.Out[node]), 4) {
			change(func(r *impl.Route) { r.Rotor[node] = n })
		}
		change(func(r *impl.Route) { r.Out[node] = nil })
		change(func(r *impl.Route) { r.Out[node], r.Rotor[node] = []int{}, 0 })
		change(func(r *impl.Route) { r.Out[node], r.Rotor[node] = []int{0, 1, 2, 0, 1}, 0 })
		change(func(r *impl.Route) { r.Out[node], r.Rotor[node] = make([]int, 100000), 0 })
	}
	return routes
}

// someEnds are ends of each route of at least three nodes.
func someEnds() []int { return []int{2, 0} }

// routeResults calls each function of a route alone and tells, by name, whether all is zero.
func routeResults(r impl.Route) map[string]bool {
	zero := map[string]bool{}
	v, ok := impl.ResetRoute(r)
	zero["ResetRoute"] = isZeroRoute(v) && !ok
	return zero
}

// nodeResults does so for the functions of a route, of a node and of a number of steps.
func nodeResults(r impl.Route, at, steps int) map[string]bool {
	zero := map[string]bool{}
	v, n, ok := impl.StepRoute(r, at)
	zero["StepRoute"] = isZeroRoute(v) && n == 0 && !ok
	v, n, ok = impl.WalkAfter(r, at, steps)
	zero["WalkAfter"] = isZeroRoute(v) && n == 0 && !ok
	track, ok := impl.TrackOfWalk(r, at, steps)
	zero["TrackOfWalk"] = len(track) == 0 && !ok
	visits, ok := impl.VisitsOfWalk(r, at, steps)
	zero["VisitsOfWalk"] = len(visits) == 0 && !ok
	used, ok := impl.LinesUsed(r, at, steps)
	zero["LinesUsed"] = len(used) == 0 && !ok
	before, length, ok := impl.WalkLoop(r, at)
	zero["WalkLoop"] = before == 0 && length == 0 && !ok
	v, ok = impl.TurnRotor(r, at)
	zero["TurnRotor"] = isZeroRoute(v) && !ok
	return zero
}

// goalResults does so for the functions of a route and of two nodes.
func goalResults(r impl.Route, at, goal int) map[string]bool {
	zero := map[string]bool{}
	n, ok := impl.StepsToNode(r, at, goal)
	zero["StepsToNode"] = n == 0 && !ok
	is, ok := impl.CanWalk(r, at, goal)
	zero["CanWalk"] = !is && !ok
	return zero
}

// wantNoneSent checks that SendWalkers fails.
func wantNoneSent(t *testing.T, what string, r impl.Route, at int, ends []int, count int) {
	t.Helper()
	if sent, ok := impl.SendWalkers(r, at, ends, count); len(sent) > 0 || ok {
		t.Errorf("SendWalkers of %s is %v, %v", what, sent, ok)
	}
}

func TestInvalidRoutesGiveZeroValues(t *testing.T) {
	for i, r := range invalidRoutes() {
		what := "the invalid route " + strconv.Itoa(i)
		wantZero(t, what, routeResults(r))
		for _, at := range append(wrongNumbers(), 0, 1, 2) {
			for _, steps := range []int{0, 1, 200, -1, math.MaxInt} {
				wantZero(t, what, nodeResults(r, at, steps))
			}
			for _, goal := range append(wrongNumbers(), 0, 1, 2) {
				wantZero(t, what, goalResults(r, at, goal))
			}
			for _, count := range []int{0, 1, 100, -1, math.MaxInt} {
				wantNoneSent(t, what, r, at, someEnds(), count)
				wantNoneSent(t, what, r, at, nil, count)
			}
		}
	}
}

func TestInvalidNodesGiveZeroValues(t *testing.T) {
	for _, r := range sampleRoutes() {
		nodes := len(r.Out)
		for _, wrong := range append(wrongNumbers(), nodes, -nodes) {
			what := "the node " + strconv.Itoa(wrong) + " of " + routeName(r)
			for _, steps := range []int{0, 1, 200} {
				wantZero(t, what, nodeResults(r, wrong, steps))
			}
			for right := range r.Out {
				wantZero(t, what, goalResults(r, wrong, right))
				wantZero(t, what, goalResults(r, right, wrong))
			}
			wantZero(t, what, goalResults(r, wrong, wrong))
			for _, count := range []int{0, 1} {
				wantNoneSent(t, what, r, wrong, []int{0}, count)
				wantNoneSent(t, what, r, 0, []int{wrong}, count)
				wantNoneSent(t, what, r, 0, []int{0, wrong}, count)
				wantNoneSent(t, what, r, 0, []int{wrong, 0}, count)
			}
		}
	}
}

func TestInvalidStepsOfWalksGiveZeroValues(t *testing.T) {
	limited := []string{"WalkAfter", "TrackOfWalk", "VisitsOfWalk", "LinesUsed"}
	for _, r := range sampleRoutes() {
		for _, steps := range []int{-1, -200, 3001, 1 << 32, math.MaxInt, math.MinInt} {
			wantZero(t, strconv.Itoa(steps)+" steps", nodeResults(r, 0, steps), limited...)
		}
		wantZero(t, "more steps than those of a track", nodeResults(r, 0, 201), "TrackOfWalk")
		wantZero(t, "more steps than those of a track", nodeResults(r, 0, 3000), "TrackOfWalk")
	}
}

func TestInvalidEndsAndCountsGiveZeroValues(t *testing.T) {
	for _, r := range sampleRoutes() {
		all := make([]int, len(r.Out))
		for node := range all {
			all[node] = node
		}
		what := routeName(r)
		for _, count := range []int{0, 1, 100} {
			wantNoneSent(t, what+"without ends", r, 0, nil, count)
			wantNoneSent(t, what+"without ends", r, 0, []int{}, count)
			wantNoneSent(t, what+"with one end twice", r, 0, []int{0, 0}, count)
			wantNoneSent(t, what+"with the last end again", r, 0, append(slices.Clone(all), len(all)-1), count)
			wantNoneSent(t, what+"with the first end again", r, 0, append(slices.Clone(all), 0), count)
			wantNoneSent(t, what+"with one end more than there are nodes", r, 0, append(slices.Clone(all), len(all)), count)
			wantNoneSent(t, what+"with too many ends", r, 0, make([]int, 100000), count)
		}
		for _, count := range []int{-1, -100, 101, 1 << 32, math.MaxInt, math.MinInt} {
			wantNoneSent(t, what+"with a wrong count", r, 0, all, count)
		}
	}
}

func TestInvalidNumbersOfNodesAndWalkersGiveZeroValues(t *testing.T) {
	for _, n := range []int{0, -1, -10, 41, 1 << 32, 1 << 62, math.MaxInt, math.MinInt} {
		r, ok := impl.RingRoute(n)
		wantNoRoute(t, "RingRoute of "+strconv.Itoa(n), r, ok)
		r, ok = impl.LineRoute(n)
		wantNoRoute(t, "LineRoute of "+strconv.Itoa(n), r, ok)
		least, greatest, ok := impl.FillLine(n)
		wantPair(t, "FillLine of "+strconv.Itoa(n), least, greatest, ok, 0, 0, false)
		steps, ok := impl.FillSteps(n)
		wantNumber(t, "FillSteps of "+strconv.Itoa(n), steps, ok, 0, false)
	}
	r, ok := impl.RingRoute(11)
	wantNoRoute(t, "RingRoute of 11", r, ok)
	r, ok = impl.LineRoute(11)
	wantNoRoute(t, "LineRoute of 11", r, ok)
	r, ok = impl.LineRoute(1)
	wantNoRoute(t, "LineRoute of 1", r, ok)
}

func TestLimitsOfWalksAreMetExactly(t *testing.T) {
	n := &numbers{last: 83}
	for _, r := range []impl.Route{n.someRoute(1, 1, 1), n.someRoute(1, 4, 4), n.someRoute(10, 1, 1), n.someRoute(10, 4, 4), plainRing(10), plainLineRoute(10)} {
		last := len(r.Out) - 1
		for _, steps := range []int{0, 1, 200, 201, 3000} {
			for name, zero := range nodeResults(r, last, steps) {
				if want := name == "TrackOfWalk" && steps > 200; zero != want && name != "WalkLoop" {
					t.Errorf("%s of %s and %d steps is zero: %v", name, routeName(r), steps, zero)
				}
			}
		}
		if is, ok := impl.CanWalk(r, last, last); !is || !ok {
			t.Errorf("CanWalk of %s is %v, %v", routeName(r), is, ok)
		}
		var all []int
		for node := range r.Out {
			all = append(all, node)
		}
		for _, count := range []int{0, 100} {
			if sent, ok := impl.SendWalkers(r, last, all, count); len(sent) != len(all) || !ok {
				t.Errorf("SendWalkers of %s and %d is %v, %v", routeName(r), count, sent, ok)
			}
		}
	}
}

// roomyRoute returns a route whose slices are parts of greater ones, and these.
func roomyRoute(r impl.Route) (impl.Route, [][]int) {
	var whole [][]int
	roomy := func(list []int) []int {
		room := append(slices.Clone(list), 77, 78, 79)
		whole = append(whole, room)
		return room[:len(list)]
	}
	v := impl.Route{Rotor: roomy(r.Rotor)}
	for _, nodes := range r.Out {
		v.Out = append(v.Out, roomy(nodes))
	}
	v.Out = append(v.Out, []int{80})[:len(v.Out)]
	return v, whole
}

func TestArgumentsOfRotorsAreNotModified(t *testing.T) {
	for _, before := range append(sampleRoutes(), invalidRoutes()...) {
		r, whole := roomyRoute(before)
		ends := append(make([]int, 0, 5), 0, 9, 9)[:1]
		impl.IsRoute(r)
		routeResults(r)
		nodeResults(r, 0, 150)
		nodeResults(r, len(r.Out)-1, 3000)
		goalResults(r, 0, 0)
		impl.SendWalkers(r, 0, ends, 20)
		if !sameRoute(r, before) || !slices.Equal(ends[:3], []int{0, 9, 9}) {
			t.Fatalf("%s has become %+v, and its ends %v", routeName(before), r, ends)
		}
		for _, list := range whole {
			if !slices.Equal(list[len(list)-3:], []int{77, 78, 79}) {
				t.Fatalf("what is behind %s has become %v", routeName(before), list)
			}
		}
		if room := r.Out[:len(r.Out)+1]; !slices.Equal(room[len(r.Out)], []int{80}) {
			t.Fatalf("what is behind %s has become %v", routeName(before), room)
		}
	}
}

// The goroutine that sends walkers has ended when the call returns, also if walkers are left.
func TestNoSenderIsLeft(t *testing.T) {
	ring := plainRing(10)
	trap := impl.Route{Out: [][]int{{1, 0}, {1}}, Rotor: []int{1, 0}}
	before := runtime.NumGoroutine()
	for range 300 {
		sent, ok := impl.SendWalkers(ring, 0, []int{5}, 100)
		wantList(t, "SendWalkers", sent, ok, 100)
		wantNoneSent(t, "a walker that goes on for ever", trap, 0, []int{0}, 100)
		wantNoneSent(t, "a walker that goes on for ever", trap, 1, []int{0}, 1)
	}
	// A goroutine that has told its end may be counted for a moment still.
	for range 1000000 {
		if runtime.NumGoroutine() <= before {
			return
		}
		runtime.Gosched()
	}
	t.Errorf("there are %d goroutines, and %d before", runtime.NumGoroutine(), before)
}

// Nothing is kept between calls, and no result depends on which goroutine comes first.
func TestWalkersAreSentTheSameInEachCall(t *testing.T) {
	n := &numbers{last: 91}
	r := n.someRoute(10, 2, 4)
	ends := []int{7, 2, 4}
	want, fine := plainSent(r, 0, ends, 100)
	var calls sync.WaitGroup
	for range 8 {
		calls.Add(1)
		go func() {
			defer calls.Done()
			for range 50 {
				if got, ok := impl.SendWalkers(r, 0, ends, 100); !slices.Equal(got, want) || ok != fine {
					t.Errorf("SendWalkers again is %v, %v; want %v, %v", got, ok, want, fine)
				}
			}
		}()
	}
	calls.Wait()
}
