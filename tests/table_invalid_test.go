package tests

import (
	"math"
	"regexp"
	"slices"
	"strconv"
	"strings"
	"testing"

	"loop.example/g01276/impl"
)

// These are tests of the promise that every function accepts all arguments, for tables: invalid ones give zero values.

// wrongTurns are no turns of a row.
func wrongTurns() []string {
	return []string{"", "l", "u", "X", "0", " ", "LL", "LR", "L ", " L", "NU", "L\x00", "\x00", "\xff", "É", "\u216c", ":", strings.Repeat("L", 100000)}
}

func invalidTables() []impl.Table {
	tables := []impl.Table{
		{}, {Rows: []impl.Row{}}, {States: 1, Tints: 1}, {States: 1, Rows: []impl.Row{}}, {Tints: 1, Rows: []impl.Row{}},
		{Rows: []impl.Row{{Turn: "L"}}}, {States: -1, Tints: -1, Rows: []impl.Row{{Turn: "L"}}}, {States: 1 << 32, Tints: 1 << 32},
		{States: 5, Tints: 1, Rows: slices.Repeat([]impl.Row{{Turn: "L"}}, 5)}, {States: 1, Tints: 5, Rows: slices.Repeat([]impl.Row{{Turn: "L"}}, 5)},
		{States: 5, Tints: 4, Rows: slices.Repeat([]impl.Row{{Turn: "L"}}, 20)}, {States: 4, Tints: 5, Rows: slices.Repeat([]impl.Row{{Turn: "L"}}, 20)},
		{States: 4, Tints: 4, Rows: slices.Repeat([]impl.Row{{Turn: "L"}}, 17)}, {States: 4, Tints: 4, Rows: slices.Repeat([]impl.Row{{Turn: "L"}}, 15)},
		{States: 1, Tints: 1, Rows: make([]impl.Row, 1)}, {States: 1, Tints: 1, Rows: slices.Repeat([]impl.Row{{Turn: "L"}}, 100000)},
	}
	change := func(f func(t *impl.Table)) {
		t := tableOf("2/3:1L02R10N12U00L01R1")
		f(&t)
		tables = append(tables, t)
	}
	for i := range 6 {
		for _, turn := range wrongTurns() {
			change(func(t *impl.Table) { t.Rows[i].Turn = turn })
		}
		for _, n := range append(wrongNumbers(), 3, 4) {
			change(func(t *impl.Table) { t.Rows[i].Paint = n })
		}
		for _, n := range append(wrongNumbers(), 2, 3, 4) {
			change(func(t *impl.Table) { t.Rows[i].Next = n })
		}
		// The rows are in the room behind the others, but are none of them.
		change(func(t *impl.Table) { t.Rows = t.Rows[:i] })
	}
	for _, n := range append(wrongNumbers(), 0, 1, 3, 4, 5, 6) {
		change(func(t *impl.Table) { t.States = n })
	}
	for _, n := range append(wrongNumbers(), 0, 1, 2, 4, 5, 6) {
		change(func(t *impl.Table) { t.Tints = n })
	}
	change(func(t *impl.Table) { t.States, t.Tints = 3, 2 }) // the paint 2 and no state 2
	change(func(t *impl.Table) { t.States, t.Tints = -2, -3 })
	change(func(t *impl.Table) { t.Rows = append(t.Rows, t.Rows[0]) })
	return tables
}

// validScene is a scene of which invalid ones are made.
func validScene() impl.Scene {
	return sceneOf("2/3:1L02R10N12U00L01R1", "3x2", "012012", "2,1,3,1")
}

func invalidScenes() []impl.Scene {
	var scenes []impl.Scene
	change := func(f func(s *impl.Scene)) {
		s := validScene()
		f(&s)
		scenes = append(scenes, s)
	}
	scenes = append(scenes, impl.Scene{}, impl.Scene{Width: 1, Height: 1, Cells: "0"})
	for _, table := range invalidTables() {
		change(func(s *impl.Scene) { s.Table = table })
	}
	change(func(s *impl.Scene) { s.Table = tableOf(turningTable) })    // the cells have a third tint
	change(func(s *impl.Scene) { s.Table = tableOf("1/3:1L02R00N0") }) // the ant has a second state
	for _, cells := range []string{"", "01201", "0120120", "012013", "312012", "01201/", "01201:", "01201-", "0120 2", "01201\xff", "01201\x00", strings.Repeat("0", 100000)} {
		change(func(s *impl.Scene) { s.Cells = cells })
	}
	for _, n := range []int{0, -1, -3, 1, 2, 6, 10, 1 << 32, math.MaxInt, math.MinInt} {
		change(func(s *impl.Scene) { s.Width = n })
	}
	for _, n := range []int{0, -1, -2, 1, 3, 6, 10, 1 << 32, math.MaxInt, math.MinInt} {
		change(func(s *impl.Scene) { s.Height = n })
	}
	for _, n := range append(wrongNumbers(), 3) {
		change(func(s *impl.Scene) { s.X = n })
	}
	for _, n := range append(wrongNumbers(), 2) {
		change(func(s *impl.Scene) { s.Y = n })
	}
	for _, n := range append(wrongNumbers(), 4) {
		change(func(s *impl.Scene) { s.Way = n })
	}
	for _, n := range append(wrongNumbers(), 2, 3) {
		change(func(s *impl.Scene) { s.State = n })
	}
	long := func(width, height int) impl.Scene {
		return impl.Scene{Table: tableOf("1/1:0L0"), Width: width, Height: height, Cells: strings.Repeat("0", 10)}
	}
	minus := long(-1, -1)
	minus.Cells = "0"
	huge := long(1<<32, 1<<32)
	huge.Cells = ""
	return append(scenes, long(10, 1), long(1, 10), long(-2, -5), minus, huge)
}

// tableResults calls each function of a table alone and tells, by name, whether all is zero.
func tableResults(t impl.Table) map[string]bool {
	zero := map[string]bool{}
	can, ok := impl.CanUndo(t)
	zero["CanUndo"] = !can && !ok
	v, ok := impl.MirrorTable(t)
	zero["MirrorTable"] = isZeroTable(v) && !ok
	reached, ok := impl.StatesReached(t)
	zero["StatesReached"] = len(reached) == 0 && !ok
	text, ok := impl.TableText(t)
	zero["TableText"] = text == "" && !ok
	return zero
}

// pairResults does so for the functions of a table and of two numbers.
func pairResults(t impl.Table, a, b int) map[string]bool {
	zero := map[string]bool{}
	row, ok := impl.RowOf(t, a, b)
	zero["RowOf"] = row == impl.Row{} && !ok
	s, ok := impl.EmptyScene(t, a, b)
	zero["EmptyScene"] = isZeroScene(s) && !ok
	return zero
}

// orderResults does so for the functions of a table and of an order.
func orderResults(t impl.Table, order []int) map[string]bool {
	zero := map[string]bool{}
	v, ok := impl.RenameStates(t, order)
	zero["RenameStates"] = isZeroTable(v) && !ok
	v, ok = impl.RenameTints(t, order)
	zero["RenameTints"] = isZeroTable(v) && !ok
	return zero
}

// sceneResults does so for the functions of a scene alone.
func sceneResults(s impl.Scene) map[string]bool {
	zero := map[string]bool{}
	v, ok := impl.StepScene(s)
	zero["StepScene"] = isZeroScene(v) && !ok
	v, ok = impl.UndoScene(s)
	zero["UndoScene"] = isZeroScene(v) && !ok
	before, length, ok := impl.LoopOfScene(s)
	zero["LoopOfScene"] = before == 0 && length == 0 && !ok
	return zero
}

// roundResults does so for the functions of a scene and of a number of steps.
func roundResults(s impl.Scene, steps int) map[string]bool {
	zero := map[string]bool{}
	v, ok := impl.SceneAfter(s, steps)
	zero["SceneAfter"] = isZeroScene(v) && !ok
	n, ok := impl.PaintedAfter(s, steps)
	zero["PaintedAfter"] = n == 0 && !ok
	return zero
}

func TestInvalidTablesGiveZeroValues(t *testing.T) {
	for i, table := range invalidTables() {
		what := "the invalid table " + strconv.Itoa(i)
		wantZero(t, what, tableResults(table))
		for _, a := range []int{0, 1, 2, -1, math.MaxInt, math.MinInt} {
			for _, b := range []int{0, 1, 2, -1, math.MaxInt, math.MinInt} {
				wantZero(t, what, pairResults(table, a, b))
			}
		}
		for _, order := range [][]int{nil, {0}, {0, 1}, {2, 1, 0}, {0, 1, 2, 3}, {0, 0}, {-1}, identity(6)} {
			wantZero(t, what, orderResults(table, order))
		}
	}
}

func TestInvalidScenesGiveZeroValues(t *testing.T) {
	for i, s := range invalidScenes() {
		what := "the invalid scene " + strconv.Itoa(i)
		wantZero(t, what, sceneResults(s))
		for _, steps := range []int{0, 1, 3000, -1, math.MaxInt} {
			wantZero(t, what, roundResults(s, steps))
		}
	}
	if s := validScene(); !impl.IsScene(s) || !plainUndoable(s.Table) {
		t.Errorf("%s is no scene that can be undone", sceneName(s))
	}
}

func TestInvalidStepsOfScenesGiveZeroValues(t *testing.T) {
	for _, s := range sampleScenes() {
		for _, steps := range []int{-1, -3000, 3001, 1 << 32, math.MaxInt, math.MinInt} {
			wantZero(t, strconv.Itoa(steps)+" steps of "+sceneName(s), roundResults(s, steps))
		}
	}
}

func TestInvalidStatesAndTintsGiveZeroValues(t *testing.T) {
	for _, table := range sampleTables() {
		for _, n := range append(wrongNumbers(), 4, table.States) {
			wantZero(t, "the state "+strconv.Itoa(n)+" of "+tableName(table), pairResults(table, n, 0), "RowOf")
			wantZero(t, "the state "+strconv.Itoa(n)+" of "+tableName(table), pairResults(table, n, table.Tints-1), "RowOf")
		}
		for _, n := range append(wrongNumbers(), 4, table.Tints) {
			wantZero(t, "the tint "+strconv.Itoa(n)+" of "+tableName(table), pairResults(table, 0, n), "RowOf")
			wantZero(t, "the tint "+strconv.Itoa(n)+" of "+tableName(table), pairResults(table, table.States-1, n), "RowOf")
		}
		for _, n := range append(wrongNumbers(), 0) {
			what := "the side " + strconv.Itoa(n) + " of " + tableName(table)
			wantZero(t, what, pairResults(table, n, 1), "EmptyScene")
			wantZero(t, what, pairResults(table, 9, n), "EmptyScene")
			wantZero(t, what, pairResults(table, n, n), "EmptyScene")
		}
	}
}

func TestInvalidOrdersGiveZeroValues(t *testing.T) {
	for _, table := range sampleTables() {
		for name, count := range map[string]int{"RenameStates": table.States, "RenameTints": table.Tints} {
			var orders [][]int
			for i := range count {
				for _, n := range append(wrongNumbers(), count, -count) {
					order := identity(count)
					order[i] = n
					orders = append(orders, order)
				}
				for other := range i {
					order := identity(count)
					order[i] = other // once more
					orders = append(orders, order)
				}
				orders = append(orders, append(identity(count), i))
			}
			orders = append(orders, nil, []int{}, identity(count+1), identity(count)[:count-1], append([]int{-1}, identity(count)...), identity(100000))
			for _, order := range orders {
				wantZero(t, "an order of "+tableName(table), orderResults(table, order), name)
			}
		}
	}
}

func TestInvalidRulesHaveNoTable(t *testing.T) {
	for _, rule := range append(invalidRules(), "LRLRL", "LRLRLR", "NNNNN", "UUUUUU") {
		got, ok := impl.TableOfRule(rule)
		wantNoTable(t, "TableOfRule of "+strconv.Quote(rule[:min(len(rule), 100)]), got, ok)
	}
}

func TestInvalidNumbersOfTablesGiveZeroValues(t *testing.T) {
	counts := map[string]func(int, int) (int, bool){"CountTables": impl.CountTables, "CountUndoable": impl.CountUndoable}
	for name, count := range counts {
		for _, n := range append(wrongNumbers(), 0, 5, 1<<62, 1<<63-1, -2) {
			for _, other := range []int{1, 2, 4, 0, -1, -2, 1 << 32, 1 << 62, n} {
				what := name + " of " + strconv.Itoa(n) + " and " + strconv.Itoa(other)
				got, ok := count(n, other)
				wantNumber(t, what, got, ok, 0, false)
				got, ok = count(other, n)
				wantNumber(t, what+" exchanged", got, ok, 0, false)
			}
		}
		for _, size := range [][2]int{{2, 3}, {3, 2}, {3, 3}, {4, 2}, {2, 4}, {4, 4}} {
			got, ok := count(size[0], size[1])
			wantNumber(t, name+" of more than 4 rows", got, ok, 0, false)
		}
	}
}

// isTableText reports whether a text is that of a table.
func isTableText(text string) bool {
	signs := regexp.MustCompile(`\A([1-4])/([1-4]):(([0-3])[LRNU]([0-3]))+\z`).FindString(text)
	if signs == "" {
		return false
	}
	table := tableOf(text)
	for _, row := range table.Rows {
		if row.Paint >= table.Tints || row.Next >= table.States {
			return false
		}
	}
	return len(table.Rows) == table.States*table.Tints
}

// wantParsed checks that a text is read if it is that of a table, and not otherwise.
func wantParsed(t *testing.T, text string) bool {
	t.Helper()
	got, ok := impl.ParseTable(text)
	is := isTableText(text)
	if is {
		wantTable(t, "ParseTable of "+strconv.Quote(text), got, ok, tableOf(text))
	} else {
		wantNoTable(t, "ParseTable of "+strconv.Quote(text), got, ok)
	}
	return is
}

func TestTextsThatAreNoTables(t *testing.T) {
	for _, text := range []string{
		"", "1", "1/1", "1/1:", "1/1:0", "1/1:0L", "1/1:0L0 ", " 1/1:0L0", "1/1:0L0\n", "1/1:0L00", "1/1:0L00L0", "1/2:1L0", "1/2:1L00R00R0",
		"0/1:", "1/0:", "0/0:", "0/1:0L0", "1/0:0L0", "0/0:0L0", "5/1:0L00L00L00L00L0", "1/5:0L00L00L00L00L0",
		"1/1:1L0", "1/1:0L1", "1/1:0X0", "1/1:0l0", "1x1:0L0", "1/1;0L0", "1:1/0L0", "01/1:0L0", "1/01:0L0", "+1/1:0L0", "-1/1:0L0", "1/-1:0L0",
		"1/1:L00", "1/1:00L", "1/1:0L-0", "1/1:+0L0", "1/1: 0L0", "1/1:0 L0", "1 /1:0L0", "1/1:0L\x00", "\xff/1:0L0", "1/\xff:0L0",
		"///:0L0", "./.:0L00L00L00L0", "/./:0L00L0", "//", ":", "1/1:0É0", "1/1:0\u216c0", "2/2:1L10R00N1", "2/2:1L10R00N12U0", "2/2:1L10R00N11U2",
		"4/4:" + strings.Repeat("0L0", 15), "4/4:" + strings.Repeat("0L0", 17), "4/4:" + strings.Repeat("0L0", 100000), strings.Repeat("1", 100000),
	} {
		if wantParsed(t, text) {
			t.Errorf("%q is the text of a table", text)
		}
	}
}

// oneByteFrom checks all beginnings and ends of a text, and all texts that have one byte less, one more or another one, and returns how often another byte is right.
func oneByteFrom(text string, check func(other string) bool) int {
	right := 0
	for at := range len(text) {
		check(text[:at])
		check(text[at:])
		check(text[:at] + text[at+1:])
		for b := range 256 {
			sign := string([]byte{byte(b)})
			check(text[:at] + sign + text[at:])
			if check(text[:at] + sign + text[at+1:]) {
				right++
			}
		}
	}
	return right
}

// Texts that differ from that of a table by one byte are read if, and only if, they are texts of tables too.
func TestTextsOneByteFromThoseOfTables(t *testing.T) {
	read := 0
	for _, text := range []string{"1/1:0L0", "2/1:0L10N0", "1/3:1L02R00N0", turningTable, "3/2:0L01L10R21N00U11L2"} {
		read += oneByteFrom(text, func(other string) bool { return wantParsed(t, other) })
	}
	if read < 100 {
		t.Errorf("only %d texts are read", read)
	}
}

func TestLimitsOfScenesAreMetExactly(t *testing.T) {
	n := &numbers{last: 43}
	for _, size := range [][2]int{{1, 1}, {1, 4}, {4, 1}, {4, 4}} {
		table := n.someUndoable(size[0], size[1])
		for name, zero := range tableResults(table) {
			if zero {
				t.Errorf("%s of %s is zero", name, tableName(table))
			}
		}
		row, ok := impl.RowOf(table, size[0]-1, size[1]-1)
		if row != table.Rows[len(table.Rows)-1] || !ok {
			t.Errorf("the last row of %s is %+v, %v", tableName(table), row, ok)
		}
		for _, board := range [][2]int{{1, 1}, {1, 9}, {9, 1}, {9, 9}} {
			empty, ok := impl.EmptyScene(table, board[0], board[1])
			want := impl.Scene{Table: table, Width: board[0], Height: board[1], Cells: strings.Repeat("0", board[0]*board[1])}
			wantScene(t, "EmptyScene of "+tableName(table), empty, ok, want)
			s := n.someScene(table, board[0], board[1])
			s.X, s.Y, s.Way, s.State = board[0]-1, board[1]-1, 3, size[0]-1
			same, ok := impl.SceneAfter(s, 0)
			wantScene(t, "no steps of "+sceneName(s), same, ok, s)
			count, ok := impl.PaintedAfter(s, 0)
			wantNumber(t, "no steps of "+sceneName(s), count, ok, len(s.Cells)-strings.Count(s.Cells, "0"), true)
			next, ok := impl.SceneAfter(s, 3000)
			wantScene(t, "the most steps of "+sceneName(s), next, ok, plainPlays(s, 3000))
		}
	}
}

// roomyTable returns a table whose rows are a part of more rows, and these.
func roomyTable(t impl.Table) (impl.Table, []impl.Row) {
	room := append(slices.Clone(t.Rows), impl.Row{Paint: 77, Turn: "L", Next: 78}, impl.Row{Paint: 79, Turn: "R", Next: 80})
	t.Rows = room[:len(t.Rows)]
	return t, room[len(t.Rows):]
}

func TestArgumentsOfTablesAreNotModified(t *testing.T) {
	for _, before := range append(sampleScenes(), invalidScenes()...) {
		s := before
		table, behind := roomyTable(before.Table)
		s.Table, s.Cells = table, strings.Clone(before.Cells)
		order := []int{1, 0, 2, 3, 9, 9}
		tableResults(table)
		pairResults(table, 0, 0)
		pairResults(table, 1, 1)
		for count := range 5 {
			orderResults(table, order[:count])
		}
		impl.IsTable(table)
		impl.IsScene(s)
		sceneResults(s)
		roundResults(s, 60)
		if !sameScene(s, before) || !slices.Equal(order, []int{1, 0, 2, 3, 9, 9}) {
			t.Fatalf("%+v has become %+v, and its order %v", before, s, order)
		}
		if !slices.Equal(behind, []impl.Row{{Paint: 77, Turn: "L", Next: 78}, {Paint: 79, Turn: "R", Next: 80}}) {
			t.Fatalf("what is behind %+v has become %+v", before, behind)
		}
	}
}

// Nothing is kept between calls.
func TestScenesAreTheSameInEachCall(t *testing.T) {
	s := limitScenes()[[2]int{198, 402}]
	want := plainPlays(s, 250)
	for range 5 {
		got, ok := impl.SceneAfter(s, 250)
		wantScene(t, "SceneAfter again", got, ok, want)
		before, length, ok := impl.LoopOfScene(s)
		wantPair(t, "LoopOfScene again", before, length, ok, 198, 402, true)
		reached, ok := impl.StatesReached(s.Table)
		wantList(t, "StatesReached again", reached, ok, plainReached(s.Table)...)
	}
}
