package tests

import (
	"slices"
	"strconv"
	"testing"

	"loop.example/g01276/impl"
)

// turningTable is a table of two states and two tints, all rows of which differ in all they tell.
const turningTable = "2/2:1L10R00N11U0"

func TestExampleOfTables(t *testing.T) {
	r, ok := impl.TableOfRule("LR")
	wantTable(t, "TableOfRule of LR", r, ok, tableOf("1/2:1L00R0"))
	text, ok := impl.TableText(r)
	if text != "1/2:1L00R0" || !ok {
		t.Errorf("TableText is %q, %v", text, ok)
	}
	can, ok := impl.CanUndo(r)
	wantTruth(t, "CanUndo of LR", can, ok, true)
	can, ok = impl.CanUndo(tableOf("1/2:1L01R0"))
	wantTruth(t, "CanUndo of 1/2:1L01R0", can, ok, false)
	n, ok := impl.CountTables(1, 2)
	wantNumber(t, "CountTables", n, ok, 64, true)
	n, ok = impl.CountUndoable(1, 2)
	wantNumber(t, "CountUndoable", n, ok, 32, true)
	one, ok := impl.EmptyScene(tableOf("1/1:0L0"), 1, 1)
	wantScene(t, "EmptyScene", one, ok, sceneOf("1/1:0L0", "1x1", "0", "0,0,0,0"))
	before, length, ok := impl.LoopOfScene(one)
	wantPair(t, "LoopOfScene", before, length, ok, 0, 4, true)
}

func TestLimitsOfTablesAreConstants(t *testing.T) {
	if impl.MaxStates != 4 || impl.MaxTints != 4 || impl.MaxRound != 3000 || impl.MaxLooked != 600 {
		t.Error(impl.MaxStates, impl.MaxTints, impl.MaxRound, impl.MaxLooked)
	}
}

func TestIsTable(t *testing.T) {
	for _, table := range append(sampleTables(), tableOf("1/1:0U0"), tableOf("4/1:0L30R20N10U0"), tableOf("1/4:3L02R01N00U0")) {
		if !impl.IsTable(table) {
			t.Errorf("%s is no table", tableName(table))
		}
	}
	for i, table := range invalidTables() {
		if impl.IsTable(table) {
			t.Errorf("the invalid table %d, %+v, is a table", i, table)
		}
	}
}

func TestIsScene(t *testing.T) {
	for _, s := range sampleScenes() {
		if !impl.IsScene(s) {
			t.Errorf("%s is no scene", sceneName(s))
		}
	}
	for _, s := range plainScenes(tableOf(turningTable), 2, 2) {
		if !impl.IsScene(s) {
			t.Errorf("%s is no scene", sceneName(s))
		}
	}
	for i, s := range invalidScenes() {
		if impl.IsScene(s) {
			t.Errorf("the invalid scene %d, %+v, is a scene", i, s)
		}
	}
}

func TestRowOf(t *testing.T) {
	for _, c := range []struct {
		table       string
		state, tint int
		want        impl.Row
	}{
		{"1/1:0U0", 0, 0, impl.Row{Paint: 0, Turn: "U", Next: 0}},
		{turningTable, 0, 0, impl.Row{Paint: 1, Turn: "L", Next: 1}},
		{turningTable, 0, 1, impl.Row{Paint: 0, Turn: "R", Next: 0}},
		{turningTable, 1, 0, impl.Row{Paint: 0, Turn: "N", Next: 1}},
		{turningTable, 1, 1, impl.Row{Paint: 1, Turn: "U", Next: 0}},
		{"3/1:0L10R20N0", 1, 0, impl.Row{Paint: 0, Turn: "R", Next: 2}},
		{"1/3:1L02R00N0", 0, 1, impl.Row{Paint: 2, Turn: "R", Next: 0}},
		{"3/2:0L01L10R21N00U11L2", 1, 0, impl.Row{Paint: 0, Turn: "R", Next: 2}},
		{"3/2:0L01L10R21N00U11L2", 2, 1, impl.Row{Paint: 1, Turn: "L", Next: 2}},
		{"2/3:0L01L12R02N00U12L1", 1, 0, impl.Row{Paint: 2, Turn: "N", Next: 0}},
	} {
		got, ok := impl.RowOf(tableOf(c.table), c.state, c.tint)
		if got != c.want || !ok {
			t.Errorf("RowOf %s, %d and %d is %+v, %v; want %+v", c.table, c.state, c.tint, got, ok, c.want)
		}
	}
}

func TestTableOfRule(t *testing.T) {
	for rule, want := range map[string]string{
		"L": "1/1:0L0", "R": "1/1:0R0", "N": "1/1:0N0", "U": "1/1:0U0", "RL": "1/2:1R00L0", "LL": "1/2:1L00L0",
		"NUR": "1/3:1N02U00R0", "LRNU": "1/4:1L02R03N00U0", "UUUU": "1/4:1U02U03U00U0",
	} {
		got, ok := impl.TableOfRule(rule)
		wantTable(t, "TableOfRule of "+rule, got, ok, tableOf(want))
	}
}

func TestEmptyScene(t *testing.T) {
	for _, c := range []struct {
		table string
		size  string
		cells string
	}{
		{"1/1:0L0", "1x1", "0"}, {turningTable, "3x2", "000000"}, {"4/1:0L30R20N10U0", "1x9", "000000000"}, {"1/4:3L02R01N00U0", "9x1", "000000000"},
		{turningTable, "9x9", "000000000000000000000000000000000000000000000000000000000000000000000000000000000"},
	} {
		want := sceneOf(c.table, c.size, c.cells, "0,0,0,0")
		got, ok := impl.EmptyScene(want.Table, want.Width, want.Height)
		wantScene(t, "EmptyScene of "+c.table+" and "+c.size, got, ok, want)
	}
}

func TestStepScene(t *testing.T) {
	for _, c := range []struct {
		table, size string
		cells, ant  string
		after, at   string
	}{
		{turningTable, "3x2", "010010", "1,0,0,0", "000010", "2,0,1,0"},
		{turningTable, "3x2", "010010", "0,0,0,0", "110010", "2,0,3,1"}, // behind the left edge
		{turningTable, "3x2", "010010", "2,1,2,1", "010010", "2,0,2,1"}, // behind the lowest row
		{turningTable, "3x2", "010010", "1,1,1,1", "010010", "0,1,3,0"},
		{turningTable, "3x2", "010010", "2,0,1,0", "011010", "2,1,0,1"}, // behind the first row
		{turningTable, "3x2", "010010", "2,1,1,1", "010010", "0,1,1,1"}, // behind the right edge
		{"1/1:0L0", "1x1", "0", "0,0,0,0", "0", "0,0,3,0"},
		{"1/1:0R0", "1x1", "0", "0,0,3,0", "0", "0,0,0,0"},
		{"1/1:0N0", "2x2", "0000", "0,0,1,0", "0000", "1,0,1,0"},
		{"1/1:0U0", "2x3", "000000", "1,0,0,0", "000000", "1,1,2,0"},
		{"2/1:0N10R1", "1x2", "00", "0,1,0,0", "00", "0,0,0,1"},
		{"1/4:3L02R01N00U0", "2x1", "03", "1,0,3,0", "00", "0,0,1,0"},
		{"1/4:3L02R01N00U0", "2x1", "30", "1,0,0,0", "33", "0,0,3,0"},
	} {
		s := sceneOf(c.table, c.size, c.cells, c.ant)
		got, ok := impl.StepScene(s)
		wantScene(t, "StepScene of "+sceneName(s), got, ok, sceneOf(c.table, c.size, c.after, c.at))
	}
}

func TestSceneAfterAndPaintedAfter(t *testing.T) {
	s := sceneOf(turningTable, "1x1", "0", "0,0,0,0")
	for steps, want := range []struct{ cells, ant string }{
		{"0", "0,0,0,0"}, {"1", "0,0,3,1"}, {"1", "0,0,1,0"}, {"0", "0,0,2,0"}, {"1", "0,0,1,1"}, {"1", "0,0,3,0"}, {"0", "0,0,0,0"}, {"1", "0,0,3,1"},
	} {
		got, ok := impl.SceneAfter(s, steps)
		wantScene(t, "SceneAfter "+strconv.Itoa(steps), got, ok, sceneOf(turningTable, "1x1", want.cells, want.ant))
		n, ok := impl.PaintedAfter(s, steps)
		wantNumber(t, "PaintedAfter "+strconv.Itoa(steps), n, ok, int(want.cells[0]-'0'), true)
	}
}

// Cells of each tint but 0 are painted, and each of them is one.
func TestPaintedAfter(t *testing.T) {
	for _, c := range []struct {
		table, size, cells, ant string
		want                    []int
	}{
		{"1/1:0L0", "2x2", "0000", "0,0,0,0", []int{0, 0, 0, 0, 0}},
		{"1/4:1N02N03N00N0", "3x1", "123", "0,0,1,0", []int{3, 3, 3, 2, 2, 1, 2, 1, 2, 2}},
		{"1/4:0N00N00N00N0", "3x1", "123", "1,0,1,0", []int{3, 2, 1, 0, 0}},
		{"2/2:1R11L10N00N0", "2x2", "0000", "0,0,0,0", []int{0, 1, 1, 1, 1}},
	} {
		s := sceneOf(c.table, c.size, c.cells, c.ant)
		for steps, want := range c.want {
			n, ok := impl.PaintedAfter(s, steps)
			wantNumber(t, "PaintedAfter "+strconv.Itoa(steps)+" of "+sceneName(s), n, ok, want, true)
		}
	}
}

func TestCanUndo(t *testing.T) {
	for text, want := range map[string]bool{
		"1/1:0L0": true, "1/1:0U0": true, "1/2:0L01R0": true, "1/2:1L00L0": true, "1/2:0L00L0": false, "1/2:0L00R0": false,
		"2/1:0L10L0": true, "2/1:0L00L1": true, "2/1:0L10R1": false, turningTable: true,
		"2/2:1L10R00N11U1":       false, // the first row and the last one
		"2/2:1L10R01U10N1":       false, // the same tint of two states
		"2/2:1L10R00N01U0":       false, // rows beside each other
		"3/2:0L01L10R21N00U11L2": true, "1/4:1L02L03L00L0": true, "1/4:1L02L03L03R0": false,
		"4/4:0L01L02L03L00R11R12R13R10N21N22N23N20U31U32U33U3": true,
		"4/4:0L01L02L03L00R11R12R13R10N21N22N23N20U31U32U30L0": false,
	} {
		can, ok := impl.CanUndo(tableOf(text))
		wantTruth(t, "CanUndo of "+text, can, ok, want)
	}
}

func TestUndoScene(t *testing.T) {
	for _, c := range []struct {
		table, size string
		cells, ant  string
		before, at  string
	}{
		{turningTable, "3x2", "000010", "2,0,1,0", "010010", "1,0,0,0"},
		{turningTable, "3x2", "110010", "2,0,3,1", "010010", "0,0,0,0"},
		{turningTable, "3x2", "010010", "2,0,2,1", "010010", "2,1,2,1"},
		{turningTable, "3x2", "010010", "0,1,3,0", "010010", "1,1,1,1"},
		{"1/1:0L0", "1x1", "0", "0,0,3,0", "0", "0,0,0,0"},
		{"1/2:1L00R0", "3x3", "000010000", "0,1,3,0", "000000000", "1,1,0,0"},
		{"2/1:0L10R0", "1x1", "0", "0,0,2,1", "0", "0,0,3,0"},
		{"2/1:0L10R0", "1x1", "0", "0,0,2,0", "0", "0,0,1,1"},
	} {
		s := sceneOf(c.table, c.size, c.cells, c.ant)
		got, ok := impl.UndoScene(s)
		wantScene(t, "UndoScene of "+sceneName(s), got, ok, sceneOf(c.table, c.size, c.before, c.at))
	}
	for _, text := range []string{"1/2:0L00L0", "2/1:0L10R1", "2/2:1L10R00N11U1"} {
		table := tableOf(text)
		for _, s := range plainScenes(table, 2, 1) {
			got, ok := impl.UndoScene(s)
			wantNoScene(t, "UndoScene of "+sceneName(s), got, ok)
		}
	}
}

func TestLoopOfScene(t *testing.T) {
	for _, c := range []struct {
		table, size, cells, ant string
		before, length          int
	}{
		{"1/1:0N0", "1x1", "0", "0,0,0,0", 0, 1},
		{"1/1:0U0", "1x1", "0", "0,0,0,0", 0, 2},
		{"1/1:0R0", "2x2", "0000", "0,0,0,0", 0, 4},
		{"1/1:0N0", "9x1", "000000000", "4,0,3,0", 0, 9},
		{"1/1:0N0", "9x1", "000000000", "4,0,2,0", 0, 1},
		{turningTable, "1x1", "0", "0,0,0,0", 0, 6},
		{"2/1:0N10N1", "1x1", "0", "0,0,0,0", 1, 1}, // the state alone is another one
		{"2/1:0N10N1", "3x1", "000", "0,0,1,0", 1, 3},
		{"2/1:0N10N1", "3x1", "000", "0,0,1,1", 0, 3},
		{"1/2:1L01R0", "1x1", "0", "0,0,0,0", 1, 4},
		{"1/2:1L01R0", "1x1", "1", "0,0,0,0", 0, 4},
		{"1/2:1N01N0", "3x1", "000", "0,0,1,0", 3, 3}, // the cells alone are others
		{"1/4:1N02N03N03N0", "2x1", "00", "0,0,1,0", 6, 2},
		{"4/1:0N10N20N30N3", "1x1", "0", "0,0,0,0", 3, 1},
		{"4/1:0N10N20N30N1", "1x1", "0", "0,0,0,0", 1, 3},
		{"1/2:1N00N0", "1x1", "0", "0,0,0,0", 0, 2},
	} {
		s := sceneOf(c.table, c.size, c.cells, c.ant)
		before, length, ok := impl.LoopOfScene(s)
		wantPair(t, "LoopOfScene of "+sceneName(s), before, length, ok, c.before, c.length, true)
	}
}

func TestRenameStatesAndTints(t *testing.T) {
	for _, c := range []struct {
		table  string
		order  []int
		states string
		tints  string
	}{
		{"1/1:0L0", []int{0}, "1/1:0L0", "1/1:0L0"},
		{turningTable, []int{0, 1}, turningTable, turningTable},
		{turningTable, []int{1, 0}, "2/2:0N01U11L00R1", "2/2:1R00L10U01N1"},
		{"3/1:0L10R20N0", []int{1, 2, 0}, "3/1:0N10L20R0", ""},
		{"3/1:0L10R20N0", []int{2, 0, 1}, "3/1:0R10N20L0", ""},
		{"3/1:0L10R20N0", []int{0}, "", "3/1:0L10R20N0"},
		{"1/3:1L02R00N0", []int{1, 2, 0}, "", "1/3:1N02L00R0"},
		{"1/3:1L02R00N0", []int{2, 1, 0}, "", "1/3:2N00R01L0"},
		{"4/1:0L00R00N00U3", []int{3, 0, 1, 2}, "4/1:0R30N30U20L3", ""},
		{"1/4:0L00R00N03U0", []int{3, 0, 1, 2}, "", "1/4:3R03N02U03L0"},
	} {
		table := tableOf(c.table)
		got, ok := impl.RenameStates(table, c.order)
		if c.states != "" {
			wantTable(t, "RenameStates of "+c.table, got, ok, tableOf(c.states))
		} else {
			wantNoTable(t, "RenameStates of "+c.table, got, ok)
		}
		got, ok = impl.RenameTints(table, c.order)
		if c.tints != "" {
			wantTable(t, "RenameTints of "+c.table, got, ok, tableOf(c.tints))
		} else {
			wantNoTable(t, "RenameTints of "+c.table, got, ok)
		}
	}
}

func TestMirrorTable(t *testing.T) {
	for text, want := range map[string]string{
		"1/1:0L0": "1/1:0R0", "1/1:0R0": "1/1:0L0", "1/1:0N0": "1/1:0N0", "1/1:0U0": "1/1:0U0",
		turningTable: "2/2:1R10L00N11U0", "1/4:3L02R01N00U0": "1/4:3R02L01N00U0",
	} {
		got, ok := impl.MirrorTable(tableOf(text))
		wantTable(t, "MirrorTable of "+text, got, ok, tableOf(want))
	}
}

func TestStatesReached(t *testing.T) {
	for text, want := range map[string][]int{
		"1/1:0N0": {0}, "2/1:0N00N0": {0}, "2/1:0N00N1": {0}, "2/1:0N10N0": {0, 1}, "2/1:0N10N1": {0, 1},
		"3/2:0N01N20N10N10N20N2":          {0, 2},
		"3/1:0N20N00N2":                   {0, 2},
		"4/1:0N30N00N10N2":                {0, 1, 2, 3},
		"4/1:0N20N00N10N3":                {0, 1, 2},
		"4/1:0N10N00N30N2":                {0, 1},
		"2/4:0N00N00N00N10N00N00N00N0":    {0, 1}, // by the last row of the state 0 alone
		"3/3:0N20N00N00N10N10N10N20N20N2": {0, 2},
	} {
		got, ok := impl.StatesReached(tableOf(text))
		wantList(t, "StatesReached of "+text, got, ok, want...)
	}
}

func TestCountTablesAndUndoable(t *testing.T) {
	tables := map[int]int{1: 4, 2: 64, 3: 1728, 4: 65536}
	undoable := map[int]int{1: 4, 2: 32, 3: 384, 4: 6144}
	for states := 1; states <= 4; states++ {
		for tints := 1; tints <= 4; tints++ {
			what := " of " + strconv.Itoa(states) + " and " + strconv.Itoa(tints)
			rows := states * tints
			n, ok := impl.CountTables(states, tints)
			wantNumber(t, "CountTables"+what, n, ok, tables[rows], rows <= 4)
			n, ok = impl.CountUndoable(states, tints)
			wantNumber(t, "CountUndoable"+what, n, ok, undoable[rows], rows <= 4)
		}
	}
}

func TestTableTextAndParseTable(t *testing.T) {
	for _, text := range []string{
		"1/1:0L0", "1/1:0U0", turningTable, "3/2:0L01L10R21N00U11L2", "4/1:0L30R20N10U0", "1/4:3L02R01N00U0",
		"4/4:0L01L02L03L00R11R12R13R10N21N22N23N20U31U32U33U3",
	} {
		got, ok := impl.TableText(tableOf(text))
		if got != text || !ok {
			t.Errorf("TableText of %s is %q, %v", text, got, ok)
		}
		table, ok := impl.ParseTable(text)
		wantTable(t, "ParseTable of "+text, table, ok, tableOf(text))
	}
}

// spoilRows writes over rows and whatever is behind them.
func spoilRows(rows []impl.Row) {
	rows = rows[:cap(rows)]
	for i := range rows {
		rows[i] = impl.Row{Paint: -9, Turn: "X", Next: -9}
	}
}

func TestResultsOfTablesAreNewlyAllocated(t *testing.T) {
	s := sceneOf(turningTable, "2x1", "01", "1,0,3,1")
	order := []int{0, 1}
	of := func(v impl.Scene, ok bool) (impl.Table, bool) { return v.Table, ok }
	tables := map[string]func() (impl.Table, bool){
		"TableOfRule":  func() (impl.Table, bool) { return impl.TableOfRule("LR") },
		"EmptyScene":   func() (impl.Table, bool) { return of(impl.EmptyScene(s.Table, 2, 1)) },
		"StepScene":    func() (impl.Table, bool) { return of(impl.StepScene(s)) },
		"SceneAfter":   func() (impl.Table, bool) { return of(impl.SceneAfter(s, 0)) },
		"UndoScene":    func() (impl.Table, bool) { return of(impl.UndoScene(s)) },
		"RenameStates": func() (impl.Table, bool) { return impl.RenameStates(s.Table, order) },
		"RenameTints":  func() (impl.Table, bool) { return impl.RenameTints(s.Table, order) },
		"MirrorTable":  func() (impl.Table, bool) { return impl.MirrorTable(s.Table) },
		"ParseTable":   func() (impl.Table, bool) { return impl.ParseTable(turningTable) },
	}
	for name, table := range tables {
		first, ok := table()
		if !ok {
			t.Fatalf("%s fails", name)
		}
		want := copyOfTable(first)
		spoilRows(first.Rows)
		wantTable(t, "the argument of "+name, s.Table, true, tableOf(turningTable))
		again, ok := table()
		wantTable(t, name+" again", again, ok, want)
	}
	if !slices.Equal(order, []int{0, 1}) {
		t.Errorf("the order has become %v", order)
	}
	reached, _ := impl.StatesReached(s.Table)
	spoil(reached)
	reached, ok := impl.StatesReached(s.Table)
	wantList(t, "StatesReached again", reached, ok, 0, 1)
}
