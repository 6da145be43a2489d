package tests

import (
	"slices"
	"strconv"
	"testing"

	"loop.example/g01276/impl"
)

// plainLine is a line from a node: its index in Out, and where it leads.
type plainLine struct{ index, to int }

// plainRotors are the lines from each node in the order in which walkers take them, found from the document's words alone: the one that is taken goes behind the others.
type plainRotors [][]plainLine

// rotorsOf returns the lines of a route in this order.
func rotorsOf(r impl.Route) plainRotors {
	var rotors plainRotors
	for node, nodes := range r.Out {
		var lines []plainLine
		for index, to := range nodes {
			lines = append(lines, plainLine{index, to})
		}
		rotors = append(rotors, append(slices.Clone(lines[r.Rotor[node]:]), lines[:r.Rotor[node]]...))
	}
	return rotors
}

// take returns the line that a walker at a node takes.
func (p plainRotors) take(at int) plainLine {
	line := p[at][0]
	p[at] = append(slices.Clone(p[at][1:]), line)
	return line
}

// route returns the route of such lines.
func (p plainRotors) route() impl.Route {
	var r impl.Route
	for _, lines := range p {
		nodes := make([]int, len(lines))
		for _, line := range lines {
			nodes[line.index] = line.to
		}
		r.Out = append(r.Out, nodes)
		r.Rotor = append(r.Rotor, lines[0].index)
	}
	return r
}

// name tells where a walker is and which lines come first.
func (p plainRotors) name(at int) string {
	name := strconv.Itoa(at)
	for _, lines := range p {
		name += "," + strconv.Itoa(lines[0].index)
	}
	return name
}

// plainTaken is what a walker does in some steps.
type plainTaken struct {
	route  impl.Route
	at     int
	track  []int
	visits []int
	used   [][]int
}

// plainTake lets a walker take so many steps.
func plainTake(r impl.Route, at, steps int) plainTaken {
	p := plainTaken{at: at, visits: make([]int, len(r.Out))}
	for _, nodes := range r.Out {
		p.used = append(p.used, make([]int, len(nodes)))
	}
	rotors := rotorsOf(r)
	for range steps {
		line := rotors.take(p.at)
		p.used[p.at][line.index]++
		p.at = line.to
		p.track = append(p.track, line.to)
		p.visits[line.to]++
	}
	p.route = rotors.route()
	return p
}

// plainWalkLoop returns both numbers of a loop, whichever they are, if they are together at most 3000.
func plainWalkLoop(r impl.Route, at int) (before, length int, ok bool) {
	met := map[string]int{}
	rotors := rotorsOf(r)
	for steps := 0; steps <= 3000; steps++ {
		name := rotors.name(at)
		if first, ok := met[name]; ok {
			return first, steps - first, true
		}
		met[name] = steps
		at = rotors.take(at).to
	}
	return 0, 0, false
}

// plainReach tells for any two nodes whether lines lead from the one to the other one.
func plainReach(r impl.Route) [][]bool {
	var reach [][]bool
	for node, nodes := range r.Out {
		row := make([]bool, len(r.Out))
		row[node] = true
		for _, to := range nodes {
			row[to] = true
		}
		reach = append(reach, row)
	}
	for by := range reach {
		for from := range reach {
			for to := range reach {
				reach[from][to] = reach[from][to] || reach[from][by] && reach[by][to]
			}
		}
	}
	return reach
}

// plainSent returns how many walkers come to each end; ok is false if one does not in 3000 steps.
func plainSent(r impl.Route, at int, ends []int, count int) (sent []int, ok bool) {
	rotors := rotorsOf(r)
	sent = make([]int, len(ends))
	for range count {
		node, steps := at, 0
		for steps == 0 || !slices.Contains(ends, node) {
			if steps == 3000 {
				return nil, false
			}
			node = rotors.take(node).to
			steps++
		}
		sent[slices.Index(ends, node)]++
	}
	return sent, true
}

// plainFill returns the full cells and the steps of so many walkers on an endless line.
func plainFill(walkers int) (least, greatest, steps int) {
	full, left := map[int]bool{}, map[int]int{}
	for range walkers {
		cell := 0
		for full[cell] {
			left[cell]++
			if left[cell]%2 == 1 {
				cell--
			} else {
				cell++
			}
			steps++
		}
		full[cell] = true
	}
	for cell := range full {
		least, greatest = min(least, cell), max(greatest, cell)
	}
	return least, greatest, steps
}

// someRoute returns a route of so many nodes with least..most lines from each.
func (n *numbers) someRoute(nodes, least, most int) impl.Route {
	var r impl.Route
	for range nodes {
		lines := make([]int, least+n.below(most-least+1))
		for i := range lines {
			lines[i] = n.below(nodes)
		}
		r.Out = append(r.Out, lines)
		r.Rotor = append(r.Rotor, n.below(len(lines)))
	}
	return r
}

// sampleRoutes returns routes of all numbers of nodes, with the fewest, the most and any lines, rings, lines, and nodes that lead to themselves.
func sampleRoutes() []impl.Route {
	n := &numbers{last: 53}
	routes := []impl.Route{
		{Out: [][]int{{0}}, Rotor: []int{0}},
		{Out: [][]int{{0, 0, 0, 0}}, Rotor: []int{3}},
		{Out: [][]int{{0, 0, 1}, {1, 1, 1, 0}}, Rotor: []int{1, 2}},
		{Out: [][]int{{1, 2}, {1}, {2, 2}}, Rotor: []int{0, 0, 1}},
		{Out: [][]int{{1, 1, 1}, {2, 2}, {0, 0, 0, 0}}, Rotor: []int{2, 1, 3}},
	}
	for nodes := 1; nodes <= 10; nodes++ {
		routes = append(routes, plainRing(nodes), n.someRoute(nodes, 1, 1), n.someRoute(nodes, 4, 4))
		for range 4 {
			routes = append(routes, n.someRoute(nodes, 1, 2), n.someRoute(nodes, 1, 4))
		}
		if nodes > 1 {
			routes = append(routes, plainLineRoute(nodes))
		}
	}
	return routes
}

// plainRing returns a ring of so many nodes.
func plainRing(nodes int) impl.Route {
	r := impl.Route{Rotor: make([]int, nodes)}
	for node := range nodes {
		next, before := node+1, node-1
		if next == nodes {
			next = 0
		}
		if before < 0 {
			before = nodes - 1
		}
		r.Out = append(r.Out, []int{next, before})
	}
	return r
}

// plainLineRoute returns a line of so many nodes, at least two.
func plainLineRoute(nodes int) impl.Route {
	r := impl.Route{Out: [][]int{{1}}, Rotor: make([]int, nodes)}
	for node := 1; node < nodes-1; node++ {
		r.Out = append(r.Out, []int{node - 1, node + 1})
	}
	r.Out = append(r.Out, []int{nodes - 2})
	return r
}

// limitRoute is a route on which a walker that starts at a node meets MaxWalk exactly, or exceeds it by one; what is 0 tells nothing.
type limitRoute struct {
	route          impl.Route
	at             int
	goal           int
	steps          int
	before, length int
	walkers        int
}

// limitRoutes returns routes on which numbers of steps are 3000 or 3001: those to a goal, those of a loop, or those of walkers to a goal as their end, of whom the one told by walkers is the first that needs more than 3000.
func limitRoutes() []limitRoute {
	return []limitRoute{
		{at: 9, goal: 8, steps: 3000, route: impl.Route{
			Out:   [][]int{{0, 0, 0, 1}, {0, 0, 0, 2}, {0, 2, 3}, {4, 2, 2}, {3, 2, 5, 2}, {0, 6}, {5, 1, 7, 5}, {3, 8, 1, 6}, {7, 9}, {0, 0, 0, 0}},
			Rotor: []int{2, 1, 2, 1, 1, 0, 0, 0, 0, 2}}},
		{at: 0, goal: 8, steps: 3001, route: impl.Route{
			Out:   [][]int{{1, 0, 0, 0}, {2, 1, 0, 0}, {1, 1, 0, 3}, {4, 3, 3, 0}, {4, 0, 5, 3}, {6, 3, 4, 4}, {5, 7, 5, 5}, {6, 5, 6, 8}, {8, 8, 8, 8}},
			Rotor: []int{2, 0, 1, 3, 1, 3, 0, 2, 1}}},
		{at: 7, goal: 7, steps: 3000, route: impl.Route{
			Out:   [][]int{{0, 1, 0, 0}, {0, 1, 1, 2}, {3, 1, 0, 2}, {2, 4, 1, 2}, {2, 0, 3, 5}, {4, 6, 0, 4}, {5, 0, 7, 5}, {0}},
			Rotor: []int{1, 0, 3, 1, 2, 0, 0, 0}}},
		{at: 7, goal: 7, steps: 3001, route: impl.Route{
			Out:   [][]int{{1, 0}, {2, 1, 0, 0}, {0, 1, 3}, {2, 4, 2, 2}, {5, 3, 3, 3}, {4, 4, 3, 6}, {1, 5, 7, 1}, {0, 0, 0, 0}},
			Rotor: []int{1, 3, 1, 3, 0, 2, 3, 2}}},
		{before: 0, length: 3000, route: impl.Route{
			Out:   [][]int{{1, 0, 0, 0}, {2, 1, 0, 0}, {0, 3}, {1, 2, 2, 4}, {3, 3, 5, 3}, {6, 4, 4}, {0, 0, 0, 0}},
			Rotor: []int{3, 3, 0, 1, 1, 0, 3}}},
		{before: 112, length: 2888, route: impl.Route{
			Out:   [][]int{{0, 0, 0, 1}, {1, 1, 1, 2}, {3}, {4, 2, 0, 1}, {5, 3, 3}, {6, 3, 4}, {5, 2, 7, 6}, {6, 8}, {0, 0, 0, 0}},
			Rotor: []int{2, 1, 0, 0, 0, 1, 3, 1, 3}}},
		{before: 2996, length: 4, route: impl.Route{
			Out:   [][]int{{1, 0}, {0, 0, 1, 2}, {3, 1, 1, 1}, {1, 4, 2, 2}, {5, 4, 3}, {6, 4, 3, 5}, {5, 5, 5, 7}, {6, 8, 0, 2}, {8, 9, 7, 7}, {9, 9, 9, 9}},
			Rotor: []int{0, 0, 1, 0, 0, 1, 2, 3, 0, 2}}},
		{before: 2997, length: 4, route: impl.Route{
			Out:   [][]int{{1, 0, 0, 0}, {2}, {1, 1, 3, 1}, {2, 4, 2, 3}, {5, 3, 2, 3}, {2, 4, 4, 6}, {3, 3, 7, 5}, {0, 2, 8, 6}, {8, 8, 8, 8}},
			Rotor: []int{0, 0, 2, 3, 2, 3, 0, 0, 2}}},
		{before: 0, length: 3001, route: impl.Route{
			Out:   [][]int{{0, 0, 0, 1}, {2, 1, 1, 0}, {1, 3, 1, 2}, {3, 2, 4, 2}, {0, 3, 0, 5}, {4, 6, 0, 4}, {5, 5, 5, 7}, {0}},
			Rotor: []int{2, 0, 1, 0, 3, 1, 1, 0}}},
		{goal: 9, steps: 3000, walkers: 2, route: impl.Route{
			Out:   [][]int{{1, 0}, {2, 0}, {3, 1, 1, 1}, {2, 4, 2, 0}, {2, 3, 5, 3}, {6}, {7, 5, 2, 5}, {6, 3, 7, 8}, {1, 9, 7, 7}, {0, 0, 0, 0}},
			Rotor: []int{0, 0, 0, 0, 2, 0, 3, 3, 2, 1}}},
		{goal: 8, walkers: 2, route: impl.Route{
			Out:   [][]int{{0, 1}, {2, 0, 1, 0}, {0, 2, 3, 1}, {4, 1, 2, 0}, {3, 5, 2, 4}, {2, 6, 4, 5}, {7, 2, 3, 5}, {8}, {0, 0, 0}},
			Rotor: []int{1, 0, 0, 3, 0, 3, 0, 0, 2}}},
		{goal: 8, walkers: 101, route: impl.Route{
			Out:   [][]int{{1, 0, 0}, {0, 2, 1, 0}, {3}, {4, 2, 2, 1}, {5, 3, 3, 3}, {6, 4, 4, 3}, {7, 5, 1, 1}, {1, 8, 0}, {0, 0, 0, 0}},
			Rotor: []int{1, 1, 0, 1, 3, 0, 2, 2, 0}}},
		{goal: 9, steps: 3001, walkers: 1, route: impl.Route{
			Out:   [][]int{{0, 0, 1, 0}, {1, 2, 0, 1}, {3, 1, 2}, {2, 2, 4, 2}, {5, 3, 0, 3}, {4, 6, 4, 2}, {7, 5}, {6, 6, 8, 4}, {7, 9}, {0, 0, 0, 0}},
			Rotor: []int{2, 2, 1, 0, 0, 1, 0, 0, 0, 0}}},
	}
}

// sameRoute reports whether two routes are the same; a nil and an empty slice are the same value.
func sameRoute(r, q impl.Route) bool {
	return slices.Equal(r.Rotor, q.Rotor) && slices.EqualFunc(r.Out, q.Out, slices.Equal)
}

// isZeroRoute reports whether a route has all its fields zero.
func isZeroRoute(r impl.Route) bool { return len(r.Out) == 0 && len(r.Rotor) == 0 }

// copyOfRoute returns a route that shares no memory with another one.
func copyOfRoute(r impl.Route) impl.Route {
	c := impl.Route{Rotor: slices.Clone(r.Rotor)}
	for _, nodes := range r.Out {
		c.Out = append(c.Out, slices.Clone(nodes))
	}
	return c
}

// routeName tells a route in the words of a test.
func routeName(r impl.Route) string {
	name := ""
	for node, nodes := range r.Out {
		for index, to := range nodes {
			if node < len(r.Rotor) && index == r.Rotor[node] {
				name += ">"
			}
			name += strconv.Itoa(to) + " "
		}
		name += "/ "
	}
	return name
}

// wantRoute checks that a call succeeded with a route.
func wantRoute(t *testing.T, call string, got impl.Route, ok bool, want impl.Route) {
	t.Helper()
	if !ok || !sameRoute(got, want) {
		t.Errorf("%s is %+v, %v; want %s", call, got, ok, routeName(want))
	}
}

// wantNoRoute checks that a call failed, with a route that is zero.
func wantNoRoute(t *testing.T, call string, got impl.Route, ok bool) {
	t.Helper()
	if ok || !isZeroRoute(got) {
		t.Errorf("%s is %+v, %v; want none", call, got, ok)
	}
}

// wantPair checks two numbers and whether the call succeeded.
func wantPair(t *testing.T, call string, one, two int, ok bool, wantOne, wantTwo int, fine bool) {
	t.Helper()
	if one != wantOne || two != wantTwo || ok != fine {
		t.Errorf("%s is %d, %d, %v; want %d, %d, %v", call, one, two, ok, wantOne, wantTwo, fine)
	}
}
