package tests

import (
	"slices"
	"strconv"
	"strings"
	"testing"

	"loop.example/g01276/impl"
)

// These are tests of the sixth promise: scenes go by their tables, and tables that can be undone are undone.

func TestScenesGoByTheirTables(t *testing.T) {
	for _, s := range sampleScenes() {
		want, made := s, 0
		for _, steps := range []int{0, 1, 2, 3, 7, 50, 331} {
			want, made = plainPlays(want, steps-made), steps
			what := strconv.Itoa(steps) + " of " + sceneName(s)
			got, ok := impl.SceneAfter(s, steps)
			wantScene(t, "SceneAfter "+what, got, ok, want)
			painted := 0
			for _, cell := range want.Cells {
				if cell != '0' {
					painted++
				}
			}
			n, ok := impl.PaintedAfter(s, steps)
			wantNumber(t, "PaintedAfter "+what, n, ok, painted, true)
		}
	}
}

// The most steps are those of the document too.
func TestMaxRoundIsMetExactly(t *testing.T) {
	for i, s := range sampleScenes() {
		if i%9 > 0 {
			continue
		}
		want := plainPlays(s, 2999)
		for _, steps := range []int{2999, 3000} {
			what := strconv.Itoa(steps) + " of " + sceneName(s)
			got, ok := impl.SceneAfter(s, steps)
			wantScene(t, "SceneAfter "+what, got, ok, want)
			n, ok := impl.PaintedAfter(s, steps)
			wantNumber(t, "PaintedAfter "+what, n, ok, len(want.Cells)-strings.Count(want.Cells, "0"), true)
			want = plainPlay(want)
		}
		got, ok := impl.SceneAfter(s, 3001)
		wantNoScene(t, "SceneAfter 3001 of "+sceneName(s), got, ok)
		n, ok := impl.PaintedAfter(s, 3001)
		wantNumber(t, "PaintedAfter 3001 of "+sceneName(s), n, ok, 0, false)
	}
}

// Steps that are made one after the other are those that are made at once, and each takes the row of the state and the tint.
func TestStepsOfScenesAddUp(t *testing.T) {
	for _, s := range sampleScenes() {
		now := s
		for steps := 1; steps <= 20; steps++ {
			tint := int(now.Cells[now.Y*now.Width+now.X] - '0')
			row, fine := impl.RowOf(now.Table, now.State, tint)
			next, ok := impl.StepScene(now)
			wantScene(t, "StepScene of "+sceneName(now), next, ok, plainPlay(now))
			if painted := int(next.Cells[now.Y*now.Width+now.X] - '0'); !fine || painted != row.Paint || next.State != row.Next {
				t.Errorf("RowOf %s, %d and %d is %+v, %v", tableName(now.Table), now.State, tint, row, fine)
			}
			now = next
		}
		rest, ok := impl.SceneAfter(now, 80)
		want, _ := impl.SceneAfter(s, 100)
		wantScene(t, "SceneAfter 80 of "+sceneName(now), rest, ok, want)
	}
}

// Scenes of the table of a rule go as worlds of this rule.
func TestScenesOfRulesGoAsWorlds(t *testing.T) {
	tables := 0
	for _, w := range sampleWorlds() {
		table, ok := impl.TableOfRule(w.Rule)
		if ok != (len(w.Rule) <= 4) {
			t.Errorf("TableOfRule of %s is %+v, %v", w.Rule, table, ok)
		}
		if !ok {
			continue
		}
		tables++
		can, ok := impl.CanUndo(table)
		wantTruth(t, "CanUndo of "+w.Rule, can, ok, true)
		s := impl.Scene{Table: table, Width: w.Width, Height: w.Height, Cells: w.Cells, X: w.X, Y: w.Y, Way: w.Way}
		for _, steps := range []int{0, 1, 2, 7, 300} {
			_, after := plainSteps(w, steps)
			want := impl.Scene{Table: table, Width: w.Width, Height: w.Height, Cells: after.Cells, X: after.X, Y: after.Y, Way: after.Way}
			got, ok := impl.SceneAfter(s, steps)
			wantScene(t, "SceneAfter of "+sceneName(s), got, ok, want)
		}
	}
	if tables < 40 {
		t.Errorf("only %d worlds have a table", tables)
	}
}

func TestTablesThatCanBeUndoneAreUndone(t *testing.T) {
	undone, failed := 0, 0
	for _, s := range sampleScenes() {
		can, ok := impl.CanUndo(s.Table)
		wantTruth(t, "CanUndo of "+tableName(s.Table), can, ok, plainUndoable(s.Table))
		before, ok := impl.UndoScene(s)
		if !can {
			wantNoScene(t, "UndoScene of "+sceneName(s), before, ok)
			failed++
			continue
		}
		undone++
		wantScene(t, "a step of UndoScene of "+sceneName(s), plainPlay(before), ok && impl.IsScene(before), s)
		back, ok := impl.UndoScene(plainPlay(s))
		wantScene(t, "UndoScene of a step of "+sceneName(s), back, ok, s)
		now := plainPlays(s, 60)
		for range 60 {
			now, _ = impl.UndoScene(now)
		}
		wantScene(t, "60 times UndoScene of 60 steps of "+sceneName(s), now, true, s)
	}
	if undone < 200 || failed < 150 {
		t.Errorf("%d scenes are undone, and %d are not", undone, failed)
	}
}

// All scenes of a size come from just one scene each if the table can be undone, and some come from several if not.
func TestScenesOfSmallTablesComeFromJustOne(t *testing.T) {
	tables := 0
	for _, size := range [][2]int{{1, 1}, {1, 2}, {2, 1}, {2, 2}, {1, 4}, {3, 1}} {
		plainTables(size[0], size[1], func(table impl.Table) {
			if tables++; tables%23 > 0 && len(table.Rows) > 2 {
				return
			}
			come := map[play]bool{}
			scenes := plainScenes(table, 2, 1)
			for _, s := range scenes {
				next, ok := impl.StepScene(s)
				wantScene(t, "StepScene of "+sceneName(s), next, ok, plainPlay(s))
				come[playOf(next)] = true
				back, ok := impl.UndoScene(next)
				if plainUndoable(table) {
					wantScene(t, "UndoScene of "+sceneName(next), back, ok, s)
				} else {
					wantNoScene(t, "UndoScene of "+sceneName(next), back, ok)
				}
			}
			can, ok := impl.CanUndo(table)
			wantTruth(t, "CanUndo of "+tableName(table), can, ok, len(come) == len(scenes))
		})
	}
}

func TestLoopsOfScenesComeAgain(t *testing.T) {
	loops, late, missed := 0, 0, 0
	for _, s := range sampleScenes() {
		wantBefore, wantLength, fine := plainSceneLoop(s, 600)
		before, length, ok := impl.LoopOfScene(s)
		wantPair(t, "LoopOfScene of "+sceneName(s), before, length, ok, wantBefore, wantLength, fine)
		if !ok {
			missed++
			continue
		}
		loops++
		if before > 0 {
			late++
		}
		if before > 0 && plainUndoable(s.Table) {
			t.Errorf("LoopOfScene of %s, whose table can be undone, is %d, %d", sceneName(s), before, length)
		}
		first, _ := impl.SceneAfter(s, before)
		again, fine := impl.SceneAfter(s, before+length)
		wantScene(t, "SceneAfter a loop of "+sceneName(s), again, fine, first)
		zero, same, ok := impl.LoopOfScene(first)
		wantPair(t, "LoopOfScene in the loop of "+sceneName(s), zero, same, ok, 0, length, true)
	}
	if loops < 300 || late < 100 || missed < 50 {
		t.Errorf("%d scenes come again, %d of them late, and %d do not", loops, late, missed)
	}
}

// limitScenes returns scenes whose loops have numbers that are together 600 or 601.
func limitScenes() map[[2]int]impl.Scene {
	return map[[2]int]impl.Scene{
		{0, 600}:   sceneOf("2/3:1N02R10L10U01R12U0", "2x2", "1122", "1,1,1,0"),
		{3, 597}:   sceneOf("4/3:1N02N31L32N21L01U11L32L01R22L20R31L3", "3x3", "222212111", "0,1,2,1"),
		{198, 402}: sceneOf("3/4:2R10N02R21L03L20L03N00R21N02L10R10N1", "3x2", "103000", "1,1,1,2"),
		{596, 4}:   sceneOf("4/4:3R31N23N00L31U12U02R02U33R11L23R03R11N30R32N00R0", "5x5", "3013331003032331231130231", "2,1,3,1"),
		{0, 601}:   sceneOf("2/3:0N02N01R10L11U02R1", "3x2", "211022", "2,0,1,0"),
		{1, 600}:   sceneOf("3/4:0U10R02R11L12L10N01N12L11L00L02R22N2", "3x2", "022202", "0,1,1,0"),
		{585, 16}:  sceneOf("3/2:1L00R20L00R11N11U1", "4x4", "1011111010111100", "3,3,1,1"),
		{596, 5}:   sceneOf("3/3:1L02N10N20R02U02N12L21U02U1", "5x5", "0102201221111021222100001", "0,1,3,0"),
	}
}

func TestMaxLookedIsMetExactly(t *testing.T) {
	for want, s := range limitScenes() {
		what := "LoopOfScene of " + sceneName(s)
		found, length, fine := plainSceneLoop(s, 601)
		wantPair(t, "the loop of "+sceneName(s), found, length, fine, want[0], want[1], true)
		before, length, ok := impl.LoopOfScene(s)
		if want[0]+want[1] == 600 {
			wantPair(t, what, before, length, ok, want[0], want[1], true)
		} else {
			wantPair(t, what, before, length, ok, 0, 0, false)
		}
		// Behind a step the way to the loop is shorter by one.
		next, length, ok := impl.LoopOfScene(plainPlay(s))
		if want[0] > 0 {
			wantPair(t, what+" behind a step", next, length, ok, want[0]-1, want[1], true)
		}
	}
}

// renamedScene returns a scene told with another table, and with other states and tints.
func renamedScene(s impl.Scene, table impl.Table, states, tints []int) impl.Scene {
	cells := []byte(s.Cells)
	for i, cell := range cells {
		cells[i] = byte('0' + tints[cell-'0'])
	}
	s.Table, s.Cells, s.State = table, string(cells), states[s.State]
	return s
}

// identity returns the order of so many that changes nothing.
func identity(count int) []int {
	var order []int
	for i := range count {
		order = append(order, i)
	}
	return order
}

// inverse returns the order that undoes another one.
func inverse(order []int) []int {
	other := make([]int, len(order))
	for i, told := range order {
		other[told] = i
	}
	return other
}

// Scenes whose states and tints are told otherwise go alike.
func TestRenamedTablesGoAlike(t *testing.T) {
	n := &numbers{last: 37}
	for _, s := range sampleScenes() {
		table := s.Table
		states, tints := n.someOrder(table.States), n.someOrder(table.Tints)
		byState, ok := impl.RenameStates(table, states)
		byTint, fine := impl.RenameTints(table, tints)
		if !ok || !fine || !impl.IsTable(byState) || !impl.IsTable(byTint) {
			t.Fatalf("%s is renamed as %+v, %v and %+v, %v", tableName(table), byState, ok, byTint, fine)
		}
		for _, steps := range []int{1, 2, 40} {
			after := plainPlays(s, steps)
			got := plainPlays(renamedScene(s, byState, states, identity(table.Tints)), steps)
			wantScene(t, "RenameStates of "+sceneName(s), got, true, renamedScene(after, byState, states, identity(table.Tints)))
			got = plainPlays(renamedScene(s, byTint, identity(table.States), tints), steps)
			wantScene(t, "RenameTints of "+sceneName(s), got, true, renamedScene(after, byTint, identity(table.States), tints))
		}
		back, ok := impl.RenameStates(byState, inverse(states))
		wantTable(t, "RenameStates twice of "+tableName(table), back, ok, table)
		back, ok = impl.RenameTints(byTint, inverse(tints))
		wantTable(t, "RenameTints twice of "+tableName(table), back, ok, table)
		for _, other := range []impl.Table{byState, byTint} {
			can, ok := impl.CanUndo(other)
			wantTruth(t, "CanUndo of a renamed "+tableName(table), can, ok, plainUndoable(table))
		}
	}
}

func TestOrdersThatChangeNothing(t *testing.T) {
	for _, table := range sampleTables() {
		got, ok := impl.RenameStates(table, identity(table.States))
		wantTable(t, "RenameStates of "+tableName(table), got, ok, table)
		got, ok = impl.RenameTints(table, identity(table.Tints))
		wantTable(t, "RenameTints of "+tableName(table), got, ok, table)
	}
}

// Each order is that of the document: the row of the state s and the tint c is that of the state and the tint as they are told.
func TestAllOrdersRenameEachRow(t *testing.T) {
	for _, table := range sampleTables() {
		for _, order := range allOrders(table.States) {
			want := copyOfTable(table)
			for i, row := range table.Rows {
				row.Next = order[row.Next]
				want.Rows[order[i/table.Tints]*table.Tints+i%table.Tints] = row
			}
			got, ok := impl.RenameStates(table, order)
			wantTable(t, "RenameStates of "+tableName(table), got, ok, want)
		}
		for _, order := range allOrders(table.Tints) {
			want := copyOfTable(table)
			for i, row := range table.Rows {
				row.Paint = order[row.Paint]
				want.Rows[i/table.Tints*table.Tints+order[i%table.Tints]] = row
			}
			got, ok := impl.RenameTints(table, order)
			wantTable(t, "RenameTints of "+tableName(table), got, ok, want)
		}
	}
}

// allOrders returns all orders of so many.
func allOrders(count int) [][]int {
	orders := [][]int{nil}
	for n := range count {
		var longer [][]int
		for _, order := range orders {
			for at := range n + 1 {
				longer = append(longer, slices.Insert(slices.Clone(order), at, n))
			}
		}
		orders = longer
	}
	return orders
}

// A mirrored scene is another picture of the same steps.
func TestMirroredTablesGoAlike(t *testing.T) {
	mirrored := func(s impl.Scene) impl.Scene {
		var cells string
		for y := range s.Height {
			for x := range s.Width {
				cells += s.Cells[(y+1)*s.Width-1-x:][:1]
			}
		}
		s.Cells, s.X, s.Way = cells, s.Width-1-s.X, []int{0, 3, 2, 1}[s.Way]
		return s
	}
	for _, s := range sampleScenes() {
		table, ok := impl.MirrorTable(s.Table)
		twice, fine := impl.MirrorTable(table)
		wantTable(t, "MirrorTable twice of "+tableName(s.Table), twice, ok && fine, s.Table)
		first := mirrored(s)
		first.Table = table
		got, ok := impl.SceneAfter(first, 40)
		after, _ := impl.SceneAfter(s, 40)
		want := mirrored(after)
		want.Table = table
		wantScene(t, "SceneAfter of MirrorTable of "+sceneName(s), got, ok, want)
		before, length, ok := impl.LoopOfScene(s)
		same, long, fine := impl.LoopOfScene(first)
		wantPair(t, "LoopOfScene of MirrorTable of "+sceneName(s), same, long, fine, before, length, ok)
	}
}

func TestStatesAreReached(t *testing.T) {
	some := 0
	for _, table := range sampleTables() {
		got, ok := impl.StatesReached(table)
		wantList(t, "StatesReached of "+tableName(table), got, ok, plainReached(table)...)
		if len(got) < table.States {
			some++
		}
		// No scene whose state is 0 at first has another one later.
		n := &numbers{last: 59}
		s := n.someScene(table, 4, 3)
		s.State = 0
		for range 100 {
			if s, _ = impl.StepScene(s); !slices.Contains(got, s.State) {
				t.Fatalf("%s is reached, and StatesReached is %v", sceneName(s), got)
			}
		}
	}
	if some < 4 {
		t.Errorf("only %d tables have states that are not reached", some)
	}
	for _, size := range [][2]int{{2, 1}, {3, 1}, {4, 1}, {2, 2}} {
		tables := 0
		plainTables(size[0], size[1], func(table impl.Table) {
			if tables++; tables%7 == 0 {
				got, ok := impl.StatesReached(table)
				wantList(t, "StatesReached of "+tableName(table), got, ok, plainReached(table)...)
			}
		})
	}
}

// Tables of few rows are counted one by one, and each of them has a text of its own.
func TestTablesOfFewRowsAreCounted(t *testing.T) {
	for _, size := range [][2]int{{1, 1}, {1, 2}, {2, 1}, {1, 3}, {3, 1}, {1, 4}, {4, 1}, {2, 2}} {
		all, undoable := 0, 0
		plainTables(size[0], size[1], func(table impl.Table) {
			if !impl.IsTable(table) {
				t.Fatalf("%s is no table", tableName(table))
			}
			all++
			can, ok := impl.CanUndo(table)
			if can != plainUndoable(table) || !ok {
				t.Fatalf("CanUndo of %s is %v, %v", tableName(table), can, ok)
			}
			if can {
				undoable++
			}
			text, ok := impl.TableText(table)
			again, fine := impl.ParseTable(text)
			if text != tableName(table) || !ok || !fine || !sameTable(again, table) {
				t.Fatalf("ParseTable of %q, %v is %+v, %v", text, ok, again, fine)
			}
		})
		what := " of " + strconv.Itoa(size[0]) + " and " + strconv.Itoa(size[1])
		n, ok := impl.CountTables(size[0], size[1])
		wantNumber(t, "CountTables"+what, n, ok, all, true)
		n, ok = impl.CountUndoable(size[0], size[1])
		wantNumber(t, "CountUndoable"+what, n, ok, undoable, true)
	}
}

func TestTextsOfTablesAreReadAgain(t *testing.T) {
	for _, table := range sampleTables() {
		text, ok := impl.TableText(table)
		if text != tableName(table) || !ok {
			t.Errorf("TableText of %s is %q, %v", tableName(table), text, ok)
		}
		again, ok := impl.ParseTable(text)
		wantTable(t, "ParseTable of "+text, again, ok, table)
	}
}
