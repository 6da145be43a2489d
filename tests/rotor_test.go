package tests

import (
	"slices"
	"strconv"
	"testing"

	"loop.example/g01276/impl"
)

func TestExampleOfRotors(t *testing.T) {
	r, ok := impl.RingRoute(3)
	wantRoute(t, "RingRoute of 3", r, ok, impl.Route{Out: [][]int{{1, 2}, {2, 0}, {0, 1}}, Rotor: []int{0, 0, 0}})
	track, ok := impl.TrackOfWalk(r, 0, 6)
	wantList(t, "TrackOfWalk", track, ok, 1, 2, 0, 2, 1, 0)
	before, length, ok := impl.WalkLoop(r, 0)
	wantPair(t, "WalkLoop", before, length, ok, 0, 6, true)
	used, ok := impl.LinesUsed(r, 0, 6)
	wantRows(t, "LinesUsed", used, ok, [][]int{{1, 1}, {1, 1}, {1, 1}})
	line, ok := impl.LineRoute(5)
	wantRoute(t, "LineRoute of 5", line, ok, impl.Route{Out: [][]int{{1}, {0, 2}, {1, 3}, {2, 4}, {3}}, Rotor: []int{0, 0, 0, 0, 0}})
	sent, ok := impl.SendWalkers(line, 2, []int{0, 4}, 4)
	wantList(t, "SendWalkers", sent, ok, 2, 2)
	for i, want := range [][2]int{{0, 0}, {-1, 0}, {-1, 1}, {-2, 1}} {
		least, greatest, ok := impl.FillLine(i + 1)
		wantPair(t, "FillLine", least, greatest, ok, want[0], want[1], true)
	}
}

func TestLimitsOfRotorsAreConstants(t *testing.T) {
	if impl.MaxNodes != 10 || impl.MaxOut != 4 || impl.MaxWalk != 3000 {
		t.Error(impl.MaxNodes, impl.MaxOut, impl.MaxWalk)
	}
}

func TestIsRoute(t *testing.T) {
	for _, r := range sampleRoutes() {
		if !impl.IsRoute(r) {
			t.Errorf("%s is no route", routeName(r))
		}
	}
	for _, r := range limitRoutes() {
		if !impl.IsRoute(r.route) {
			t.Errorf("%s is no route", routeName(r.route))
		}
	}
	for _, r := range invalidRoutes() {
		if impl.IsRoute(r) {
			t.Errorf("%+v is a route", r)
		}
	}
}

func TestRingRoute(t *testing.T) {
	for nodes, want := range map[int]impl.Route{
		1: {Out: [][]int{{0, 0}}, Rotor: []int{0}},
		2: {Out: [][]int{{1, 1}, {0, 0}}, Rotor: []int{0, 0}},
		4: {Out: [][]int{{1, 3}, {2, 0}, {3, 1}, {0, 2}}, Rotor: []int{0, 0, 0, 0}},
		10: {Out: [][]int{{1, 9}, {2, 0}, {3, 1}, {4, 2}, {5, 3}, {6, 4}, {7, 5}, {8, 6}, {9, 7}, {0, 8}},
			Rotor: make([]int, 10)},
	} {
		r, ok := impl.RingRoute(nodes)
		wantRoute(t, "RingRoute of "+strconv.Itoa(nodes), r, ok, want)
	}
	for nodes := 1; nodes <= impl.MaxNodes; nodes++ {
		r, ok := impl.RingRoute(nodes)
		wantRoute(t, "RingRoute of "+strconv.Itoa(nodes), r, ok, plainRing(nodes))
	}
}

func TestLineRoute(t *testing.T) {
	for nodes, want := range map[int]impl.Route{
		2: {Out: [][]int{{1}, {0}}, Rotor: []int{0, 0}},
		3: {Out: [][]int{{1}, {0, 2}, {1}}, Rotor: []int{0, 0, 0}},
		10: {Out: [][]int{{1}, {0, 2}, {1, 3}, {2, 4}, {3, 5}, {4, 6}, {5, 7}, {6, 8}, {7, 9}, {8}},
			Rotor: make([]int, 10)},
	} {
		r, ok := impl.LineRoute(nodes)
		wantRoute(t, "LineRoute of "+strconv.Itoa(nodes), r, ok, want)
	}
	for nodes := 2; nodes <= impl.MaxNodes; nodes++ {
		r, ok := impl.LineRoute(nodes)
		wantRoute(t, "LineRoute of "+strconv.Itoa(nodes), r, ok, plainLineRoute(nodes))
	}
}

func TestStepRouteTurnsTheRotorBehindTheLastIndexToTheFirst(t *testing.T) {
	r := impl.Route{Out: [][]int{{2, 0, 1}, {1}, {0, 0, 1, 2}}, Rotor: []int{1, 0, 3}}
	for at, want := range []struct {
		to    int
		rotor []int
	}{{0, []int{2, 0, 3}}, {1, []int{1, 0, 3}}, {2, []int{1, 0, 0}}} {
		got, to, ok := impl.StepRoute(r, at)
		wantRoute(t, "StepRoute from "+strconv.Itoa(at), got, ok, impl.Route{Out: r.Out, Rotor: want.rotor})
		wantNumber(t, "where StepRoute leads", to, ok, want.to, true)
	}
}

func TestWalkAfter(t *testing.T) {
	r := impl.Route{Out: [][]int{{0, 1}, {2}, {0, 0, 1}}, Rotor: []int{0, 0, 2}}
	for steps, want := range []struct {
		at    int
		rotor []int
	}{
		{0, []int{0, 0, 2}}, {0, []int{1, 0, 2}}, {1, []int{0, 0, 2}}, {2, []int{0, 0, 2}},
		{1, []int{0, 0, 0}}, {2, []int{0, 0, 0}}, {0, []int{0, 0, 1}}, {0, []int{1, 0, 1}},
	} {
		got, at, ok := impl.WalkAfter(r, 0, steps)
		wantRoute(t, "WalkAfter "+strconv.Itoa(steps), got, ok, impl.Route{Out: r.Out, Rotor: want.rotor})
		wantNumber(t, "where WalkAfter leads", at, ok, want.at, true)
	}
}

// The start is not a visit, but a step that ends there is.
func TestTrackAndVisits(t *testing.T) {
	for _, c := range []struct {
		route  impl.Route
		at     int
		track  []int
		visits []int
	}{
		{impl.Route{Out: [][]int{{0}}, Rotor: []int{0}}, 0, nil, []int{0}},
		{impl.Route{Out: [][]int{{0}}, Rotor: []int{0}}, 0, []int{0, 0, 0}, []int{3}},
		{impl.Route{Out: [][]int{{1}, {0}}, Rotor: []int{0, 0}}, 1, []int{0}, []int{1, 0}},
		{impl.Route{Out: [][]int{{1}, {0}}, Rotor: []int{0, 0}}, 1, []int{0, 1, 0}, []int{2, 1}},
		{impl.Route{Out: [][]int{{0, 1}, {2}, {0, 0, 1}}, Rotor: []int{0, 0, 2}}, 0, []int{0, 1, 2, 1, 2, 0, 0}, []int{3, 2, 2}},
		{plainLineRoute(3), 0, []int{1, 0, 1, 2, 1, 0, 1, 2}, []int{2, 4, 2}},
		{plainLineRoute(4), 2, []int{1, 0, 1, 2, 3, 2, 1, 0}, []int{2, 3, 2, 1}},
	} {
		track, ok := impl.TrackOfWalk(c.route, c.at, len(c.track))
		wantList(t, "TrackOfWalk of "+routeName(c.route), track, ok, c.track...)
		visits, ok := impl.VisitsOfWalk(c.route, c.at, len(c.track))
		wantList(t, "VisitsOfWalk of "+routeName(c.route), visits, ok, c.visits...)
	}
}

// Lines that lead to one node are told by their indices.
func TestLinesUsed(t *testing.T) {
	for _, c := range []struct {
		route impl.Route
		at    int
		steps int
		want  [][]int
	}{
		{impl.Route{Out: [][]int{{0}}, Rotor: []int{0}}, 0, 0, [][]int{{0}}},
		{impl.Route{Out: [][]int{{0}}, Rotor: []int{0}}, 0, 3000, [][]int{{3000}}},
		{impl.Route{Out: [][]int{{0, 0, 0, 0}}, Rotor: []int{2}}, 0, 3, [][]int{{1, 0, 1, 1}}},
		{impl.Route{Out: [][]int{{1, 1, 1}, {0, 1}}, Rotor: []int{1, 1}}, 0, 6, [][]int{{0, 1, 1}, {2, 2}}},
		{impl.Route{Out: [][]int{{1, 2}, {1}, {2, 2}}, Rotor: []int{0, 0, 1}}, 0, 5, [][]int{{1, 0}, {4}, {0, 0}}},
		{plainRing(3), 0, 4, [][]int{{1, 1}, {1, 0}, {1, 0}}},
		{plainLineRoute(3), 0, 8, [][]int{{3}, {2, 2}, {1}}},
	} {
		got, ok := impl.LinesUsed(c.route, c.at, c.steps)
		wantRows(t, "LinesUsed of "+routeName(c.route), got, ok, c.want)
	}
}

func TestStepsToNode(t *testing.T) {
	for _, c := range []struct {
		route    impl.Route
		at, goal int
		want     int
	}{
		{impl.Route{Out: [][]int{{0}}, Rotor: []int{0}}, 0, 0, 1}, // the start is not enough
		{impl.Route{Out: [][]int{{1}, {0}}, Rotor: []int{0, 0}}, 1, 1, 2},
		{plainRing(10), 0, 9, 9},
		{plainRing(10), 0, 0, 10},
		{plainRing(10), 5, 0, 5},
		{plainLineRoute(3), 0, 2, 4},
		{impl.Route{Out: [][]int{{1, 2}, {1}, {2}}, Rotor: []int{0, 0, 0}}, 0, 1, 1},
		{impl.Route{Out: [][]int{{1, 2}, {1}, {2}}, Rotor: []int{0, 0, 0}}, 0, 2, 0}, // a line leads there, but no walker comes to it
		{impl.Route{Out: [][]int{{1, 2}, {1}, {2}}, Rotor: []int{1, 0, 0}}, 0, 2, 1},
		{impl.Route{Out: [][]int{{1, 2}, {1}, {2}}, Rotor: []int{1, 0, 0}}, 0, 0, 0},
		{impl.Route{Out: [][]int{{0}, {1}}, Rotor: []int{0, 0}}, 0, 1, 0},
	} {
		n, ok := impl.StepsToNode(c.route, c.at, c.goal)
		wantNumber(t, "StepsToNode of "+routeName(c.route), n, ok, c.want, c.want > 0)
	}
}

func TestWalkLoop(t *testing.T) {
	for _, c := range []struct {
		route          impl.Route
		at             int
		before, length int
	}{
		{impl.Route{Out: [][]int{{0}}, Rotor: []int{0}}, 0, 0, 1},
		{impl.Route{Out: [][]int{{0, 0, 0, 0}}, Rotor: []int{2}}, 0, 0, 4}, // the Rotor is another one, though the walker is at its node
		{plainRing(1), 0, 0, 2},
		{plainRing(2), 1, 0, 4},
		{plainRing(10), 7, 0, 20},
		{plainLineRoute(2), 0, 0, 2},
		{plainLineRoute(3), 0, 1, 4},
		{impl.Route{Out: [][]int{{1, 2}, {1}, {2, 2}}, Rotor: []int{0, 0, 1}}, 0, 1, 1},
		{impl.Route{Out: [][]int{{1, 2}, {1}, {2, 2}}, Rotor: []int{1, 0, 1}}, 0, 1, 2},
	} {
		before, length, ok := impl.WalkLoop(c.route, c.at)
		wantPair(t, "WalkLoop of "+routeName(c.route), before, length, ok, c.before, c.length, true)
	}
}

func TestCanWalk(t *testing.T) {
	for _, c := range []struct {
		route    impl.Route
		at, goal int
		want     bool
	}{
		{impl.Route{Out: [][]int{{0}}, Rotor: []int{0}}, 0, 0, true},
		{impl.Route{Out: [][]int{{1}, {1}}, Rotor: []int{0, 0}}, 0, 0, true}, // no steps lead there
		{impl.Route{Out: [][]int{{1}, {1}}, Rotor: []int{0, 0}}, 1, 0, false},
		{impl.Route{Out: [][]int{{1, 2}, {1}, {2}}, Rotor: []int{0, 0, 0}}, 0, 2, true},
		{impl.Route{Out: [][]int{{1, 2}, {1}, {2}}, Rotor: []int{0, 0, 0}}, 1, 2, false},
		{impl.Route{Out: [][]int{{0, 0, 0, 1}, {0, 0, 0, 2}, {2}}, Rotor: []int{0, 0, 0}}, 0, 2, true},
		{impl.Route{Out: [][]int{{9}, {0}, {1}, {2}, {3}, {4}, {5}, {6}, {7}, {8}}, Rotor: make([]int, 10)}, 0, 1, true},
		{impl.Route{Out: [][]int{{9}, {0}, {1}, {2}, {3}, {4}, {5}, {6}, {7}, {9}}, Rotor: make([]int, 10)}, 0, 1, false},
	} {
		is, ok := impl.CanWalk(c.route, c.at, c.goal)
		if is != c.want || !ok {
			t.Errorf("CanWalk of %s from %d to %d is %v, %v", routeName(c.route), c.at, c.goal, is, ok)
		}
	}
}

func TestSendWalkers(t *testing.T) {
	turn := impl.Route{Out: [][]int{{1, 2, 3}, {0}, {0}, {3}}, Rotor: []int{1, 0, 0, 0}}
	for _, c := range []struct {
		route impl.Route
		at    int
		ends  []int
		count int
		want  []int
	}{
		{turn, 0, []int{1, 2, 3}, 0, []int{0, 0, 0}},
		{turn, 0, []int{1, 2, 3}, 1, []int{0, 1, 0}},
		{turn, 0, []int{1, 2, 3}, 4, []int{1, 2, 1}},
		{turn, 0, []int{3, 1, 2}, 4, []int{1, 1, 2}},        // in the order of ends, as told
		{turn, 0, []int{3}, 100, []int{100}},                // by way of the other nodes
		{turn, 0, []int{0, 3}, 6, []int{4, 2}},              // the start is an end, but the walkers leave it
		{turn, 3, []int{3}, 5, []int{5}},                    // a node that leads to itself
		{turn, 3, []int{0, 1}, 0, []int{0, 0}},              // no walker is sent, and so none goes on for ever
		{turn, 2, []int{2}, 1, []int{1}},                    // around by way of 0
		{turn, 2, []int{0, 1, 2, 3}, 7, []int{7, 0, 0, 0}},  // all nodes are ends
		{plainRing(1), 0, []int{0}, 100, []int{100}},        // the only node
		{plainLineRoute(5), 2, []int{4, 0}, 3, []int{1, 2}}, // an odd number
		{plainRing(10), 0, []int{9, 8, 7, 6, 5, 4, 3, 2, 1, 0}, 100, []int{50, 0, 0, 0, 0, 0, 0, 0, 50, 0}},
	} {
		got, ok := impl.SendWalkers(c.route, c.at, c.ends, c.count)
		wantList(t, "SendWalkers of "+routeName(c.route), got, ok, c.want...)
	}
}

// A walker that comes to no end makes the call fail, be it the first one, one in between, or the last one.
func TestSendWalkersFails(t *testing.T) {
	trap := impl.Route{Out: [][]int{{1, 1, 1, 2}, {0}, {2}}, Rotor: []int{1, 0, 0}}
	for count := range 101 {
		want := []int{count}
		if count >= 3 {
			want = nil
		}
		got, ok := impl.SendWalkers(trap, 0, []int{1}, count)
		if !slices.Equal(got, want) || ok != (want != nil) {
			t.Errorf("SendWalkers of %d is %v, %v", count, got, ok)
		}
	}
	// Only the hundredth walker comes to 4, which leads to itself alone.
	late := impl.Route{Out: [][]int{{5, 5, 5, 1}, {5, 5, 5, 2}, {5, 5, 5, 3}, {5, 4}, {4}, {0}}, Rotor: []int{0, 3, 1, 0, 0, 0}}
	got, ok := impl.SendWalkers(late, 0, []int{5}, 99)
	wantList(t, "SendWalkers of 99", got, ok, 99)
	got, ok = impl.SendWalkers(late, 0, []int{5, 4}, 100)
	wantList(t, "SendWalkers of 100", got, ok, 99, 1)
	if got, ok = impl.SendWalkers(late, 0, []int{5}, 100); len(got) > 0 || ok {
		t.Errorf("SendWalkers of 100 is %v, %v; the last one comes to no end", got, ok)
	}
}

func TestResetRouteAndTurnRotor(t *testing.T) {
	r := impl.Route{Out: [][]int{{2, 0, 1}, {1}, {0, 0, 1, 2}}, Rotor: []int{1, 0, 3}}
	got, ok := impl.ResetRoute(r)
	wantRoute(t, "ResetRoute", got, ok, impl.Route{Out: r.Out, Rotor: []int{0, 0, 0}})
	for node, rotor := range [][]int{{2, 0, 3}, {1, 0, 3}, {1, 0, 0}} {
		got, ok = impl.TurnRotor(r, node)
		wantRoute(t, "TurnRotor of "+strconv.Itoa(node), got, ok, impl.Route{Out: r.Out, Rotor: rotor})
	}
}

func TestFillLineAndFillSteps(t *testing.T) {
	for i, want := range [][3]int{{0, 0, 0}, {-1, 0, 1}, {-1, 1, 2}, {-2, 1, 4}, {-2, 2, 10}} {
		what := " of " + strconv.Itoa(i+1)
		least, greatest, ok := impl.FillLine(i + 1)
		wantPair(t, "FillLine"+what, least, greatest, ok, want[0], want[1], true)
		steps, ok := impl.FillSteps(i + 1)
		wantNumber(t, "FillSteps"+what, steps, ok, want[2], true)
	}
	least, greatest, ok := impl.FillLine(40)
	wantPair(t, "FillLine of 40", least, greatest, ok, -20, 19, true)
}

func TestResultsOfRotorsAreNewlyAllocated(t *testing.T) {
	// Two nodes share their lines, as an argument may: the results share none.
	lines := []int{1, 0, 1}
	r := impl.Route{Out: [][]int{lines, lines}, Rotor: []int{1, 2}}
	want := copyOfRoute(r)
	routes := map[string]func() (impl.Route, bool){
		"RingRoute":  func() (impl.Route, bool) { return impl.RingRoute(4) },
		"LineRoute":  func() (impl.Route, bool) { return impl.LineRoute(4) },
		"StepRoute":  func() (impl.Route, bool) { v, _, ok := impl.StepRoute(r, 0); return v, ok },
		"WalkAfter":  func() (impl.Route, bool) { v, _, ok := impl.WalkAfter(r, 0, 0); return v, ok },
		"ResetRoute": func() (impl.Route, bool) { return impl.ResetRoute(r) },
		"TurnRotor":  func() (impl.Route, bool) { return impl.TurnRotor(r, 1) },
	}
	for name, route := range routes {
		first, _ := route()
		before := copyOfRoute(first)
		for node := range first.Out {
			spoil(first.Out[node])
			after := copyOfRoute(first)
			after.Out = after.Out[node+1:]
			if !sameRoute(after, impl.Route{Out: before.Out[node+1:], Rotor: before.Rotor}) {
				t.Errorf("the lines of %s share memory", name)
			}
		}
		spoil(first.Rotor)
		again, ok := route()
		wantRoute(t, name+" again", again, ok, before)
		wantRoute(t, "the argument of "+name, r, true, want)
	}
	used, _ := impl.LinesUsed(r, 0, 6)
	spoil(used[0])
	again, ok := impl.LinesUsed(r, 0, 6)
	wantRows(t, "LinesUsed again", again[1:], ok, used[1:])
	wantRoute(t, "the argument of LinesUsed", r, true, want)
}

// spoil writes over a slice and whatever is behind it.
func spoil(list []int) {
	list = list[:cap(list)]
	for i := range list {
		list[i] = -9
	}
}
