package tests

import (
	"slices"
	"strconv"
	"strings"
	"testing"

	"loop.example/g01276/impl"
)

// tableOf returns the table with a text as it is told in tests, whatever the program reads.
func tableOf(text string) impl.Table {
	t := impl.Table{States: int(text[0] - '0'), Tints: int(text[2] - '0')}
	for at := 4; at < len(text); at += 3 {
		t.Rows = append(t.Rows, impl.Row{Paint: int(text[at] - '0'), Turn: text[at+1 : at+2], Next: int(text[at+2] - '0')})
	}
	return t
}

// tableName tells a table in the words of a test.
func tableName(t impl.Table) string {
	name := strconv.Itoa(t.States) + "/" + strconv.Itoa(t.Tints) + ":"
	for _, row := range t.Rows {
		name += strconv.Itoa(row.Paint) + row.Turn + strconv.Itoa(row.Next)
	}
	return name
}

// sceneOf returns the scene with the texts of a table, a size, the cells and an ant: "2x1", "01" and "1,0,3,1" tell two cells, and an ant in the second one with the way 3 and the state 1.
func sceneOf(table, size, cells, ant string) impl.Scene {
	number := func(text string, at int) int { return int(text[at] - '0') }
	return impl.Scene{Table: tableOf(table), Width: number(size, 0), Height: number(size, 2), Cells: cells,
		X: number(ant, 0), Y: number(ant, 2), Way: number(ant, 4), State: number(ant, 6)}
}

// sceneName tells a scene in the words of a test.
func sceneName(s impl.Scene) string {
	name := tableName(s.Table) + " " + strconv.Itoa(s.Width) + "x" + strconv.Itoa(s.Height) + " " + s.Cells + " "
	return name + strconv.Itoa(s.X) + "," + strconv.Itoa(s.Y) + "," + strconv.Itoa(s.Way) + "," + strconv.Itoa(s.State)
}

// sameTable reports whether two tables are the same; a nil and an empty slice are the same value.
func sameTable(t, u impl.Table) bool {
	return t.States == u.States && t.Tints == u.Tints && slices.Equal(t.Rows, u.Rows)
}

// sameScene reports whether two scenes are the same.
func sameScene(s, v impl.Scene) bool { return sameTable(s.Table, v.Table) && samePlay(s, v) }

// samePlay reports whether two scenes are the same but for their tables.
func samePlay(s, v impl.Scene) bool { return playOf(s) == playOf(v) }

// isZeroTable reports whether a table has all its fields zero.
func isZeroTable(t impl.Table) bool { return sameTable(t, impl.Table{}) }

// isZeroScene reports whether a scene has all its fields zero.
func isZeroScene(s impl.Scene) bool { return sameScene(s, impl.Scene{}) }

// copyOfTable returns a table that shares no memory with another one.
func copyOfTable(t impl.Table) impl.Table {
	t.Rows = slices.Clone(t.Rows)
	return t
}

// play is what steps change of a scene, and its size.
type play struct {
	width, height int
	cells         string
	ant           [4]int
}

// playOf returns this of a scene.
func playOf(s impl.Scene) play {
	return play{s.Width, s.Height, s.Cells, [4]int{s.X, s.Y, s.Way, s.State}}
}

// plainPlay returns the scene behind a step, found from the document's words alone: the ant goes on as that of a world whose only colour has the turn of the row.
func plainPlay(s impl.Scene) impl.Scene {
	at := s.Y*s.Width + s.X
	row := s.Table.Rows[s.State*s.Table.Tints+int(s.Cells[at]-'0')]
	_, w := plainStep(impl.World{Rule: row.Turn, Width: s.Width, Height: s.Height,
		Cells: strings.Repeat("0", len(s.Cells)), X: s.X, Y: s.Y, Way: s.Way})
	s.Cells = s.Cells[:at] + string("0123"[row.Paint]) + s.Cells[at+1:]
	s.X, s.Y, s.Way, s.State = w.X, w.Y, w.Way, row.Next
	return s
}

// plainPlays returns the scene behind so many steps.
func plainPlays(s impl.Scene, steps int) impl.Scene {
	for range steps {
		s = plainPlay(s)
	}
	return s
}

// plainSceneLoop returns both numbers of the loop of a scene, if they are together at most most.
func plainSceneLoop(s impl.Scene, most int) (before, length int, ok bool) {
	var met []play
	for len(met) <= most {
		if first := slices.Index(met, playOf(s)); first >= 0 {
			return first, len(met) - first, true
		}
		met = append(met, playOf(s))
		s = plainPlay(s)
	}
	return 0, 0, false
}

// plainUndoable reports whether no two rows of a table have the same Paint and Next.
func plainUndoable(t impl.Table) bool {
	seen := map[[2]int]bool{}
	for _, row := range t.Rows {
		seen[[2]int{row.Paint, row.Next}] = true
	}
	return len(seen) == len(t.Rows)
}

// plainReached returns all states that are reached from the state 0, increasing.
func plainReached(t impl.Table) []int {
	reached := make([]bool, t.States)
	reached[0] = true
	for range t.States {
		for i, row := range t.Rows {
			reached[row.Next] = reached[row.Next] || reached[i/t.Tints]
		}
	}
	var states []int
	for state, is := range reached {
		if is {
			states = append(states, state)
		}
	}
	return states
}

// plainTables calls a function with each table of so many states and tints.
func plainTables(states, tints int, visit func(t impl.Table)) {
	var rows []impl.Row
	for paint := range tints {
		for _, turn := range []string{"L", "R", "N", "U"} {
			for next := range states {
				rows = append(rows, impl.Row{Paint: paint, Turn: turn, Next: next})
			}
		}
	}
	t := impl.Table{States: states, Tints: tints, Rows: make([]impl.Row, states*tints)}
	var fill func(at int)
	fill = func(at int) {
		if at == len(t.Rows) {
			visit(t)
			return
		}
		for _, row := range rows {
			t.Rows[at] = row
			fill(at + 1)
		}
	}
	fill(0)
}

// plainScenes returns all scenes of a table and a size.
func plainScenes(t impl.Table, width, height int) []impl.Scene {
	var scenes []impl.Scene
	for _, cells := range plainCells(t.Tints, width*height) {
		for at := range width * height {
			for ant := range 4 * t.States {
				scenes = append(scenes, impl.Scene{Table: t, Width: width, Height: height, Cells: cells,
					X: at % width, Y: at / width, Way: ant % 4, State: ant / 4})
			}
		}
	}
	return scenes
}

// someOrder returns a list of all numbers less than count, each once.
func (n *numbers) someOrder(count int) []int {
	var order []int
	for i := range count {
		order = slices.Insert(order, n.below(i+1), i)
	}
	return order
}

// someTable returns a table of so many states and tints.
func (n *numbers) someTable(states, tints int) impl.Table {
	t := impl.Table{States: states, Tints: tints}
	for range states * tints {
		t.Rows = append(t.Rows, impl.Row{Paint: n.below(tints), Turn: n.someRule(1), Next: n.below(states)})
	}
	return t
}

// someUndoable returns a table of so many states and tints that can be undone.
func (n *numbers) someUndoable(states, tints int) impl.Table {
	t := impl.Table{States: states, Tints: tints}
	for _, made := range n.someOrder(states * tints) {
		t.Rows = append(t.Rows, impl.Row{Paint: made % tints, Turn: n.someRule(1), Next: made / tints})
	}
	return t
}

// someScene returns a scene of a table and a size.
func (n *numbers) someScene(t impl.Table, width, height int) impl.Scene {
	cells := make([]byte, width*height)
	for i := range cells {
		cells[i] = byte('0' + n.below(t.Tints))
	}
	return impl.Scene{Table: t, Width: width, Height: height, Cells: string(cells),
		X: n.below(width), Y: n.below(height), Way: n.below(4), State: n.below(t.States)}
}

// sampleTables returns tables of all numbers of states and tints, some of which can be undone.
func sampleTables() []impl.Table {
	n := &numbers{last: 19}
	var tables []impl.Table
	for states := 1; states <= 4; states++ {
		for tints := 1; tints <= 4; tints++ {
			tables = append(tables, n.someTable(states, tints), n.someTable(states, tints), n.someUndoable(states, tints), n.someUndoable(states, tints))
		}
	}
	for _, turn := range []string{"L", "R", "N", "U"} {
		tables = append(tables, tableOf("1/1:0"+turn+"0"))
	}
	return tables
}

// sampleScenes returns scenes of such tables, with one cell, a row, a column, the greatest size, and others.
func sampleScenes() []impl.Scene {
	n := &numbers{last: 23}
	var scenes []impl.Scene
	for _, t := range sampleTables() {
		for _, size := range [][2]int{{1, 1}, {1, 9}, {9, 1}, {2, 1}, {2, 2}, {3, 2}, {4, 5}, {9, 9}} {
			scenes = append(scenes, n.someScene(t, size[0], size[1]))
		}
	}
	return scenes
}

// wantTable checks that a call succeeded with a table.
func wantTable(t *testing.T, call string, got impl.Table, ok bool, want impl.Table) {
	t.Helper()
	if !ok || !sameTable(got, want) {
		t.Errorf("%s is %+v, %v; want %s", call, got, ok, tableName(want))
	}
}

// wantNoTable checks that a call failed, with a table that is zero.
func wantNoTable(t *testing.T, call string, got impl.Table, ok bool) {
	t.Helper()
	if ok || !isZeroTable(got) {
		t.Errorf("%s is %+v, %v; want none", call, got, ok)
	}
}

// wantScene checks that a call succeeded with a scene.
func wantScene(t *testing.T, call string, got impl.Scene, ok bool, want impl.Scene) {
	t.Helper()
	if !ok || !sameScene(got, want) {
		t.Errorf("%s is %+v, %v; want %s", call, got, ok, sceneName(want))
	}
}

// wantNoScene checks that a call failed, with a scene that is zero.
func wantNoScene(t *testing.T, call string, got impl.Scene, ok bool) {
	t.Helper()
	if ok || !isZeroScene(got) {
		t.Errorf("%s is %+v, %v; want none", call, got, ok)
	}
}

// wantTruth checks what a call reports, and that it succeeded.
func wantTruth(t *testing.T, call string, got bool, ok bool, want bool) {
	t.Helper()
	if got != want || !ok {
		t.Errorf("%s is %v, %v; want %v", call, got, ok, want)
	}
}
