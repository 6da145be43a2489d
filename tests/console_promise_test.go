package tests

import (
	"slices"
	"strconv"
	"strings"
	"testing"

	"loop.example/g01276/impl"
)

// These are tests of the tenth promise: scripts do what the calls do that they name.

// worldCall returns the call that a line names, of which a world is behind.
func worldCall(d impl.Desk, name string, n, k, i int) (impl.World, bool) {
	switch name {
	case "go":
		return impl.WorldAfter(d.World, n)
	case "back":
		return impl.WorldBefore(d.World, n)
	case "turn":
		return impl.TurnWorld(d.World)
	case "mirror":
		return impl.MirrorWorld(d.World)
	case "reverse":
		return impl.BackWorld(d.World)
	case "shift":
		return impl.ShiftWorld(d.World, n, k)
	case "paint":
		return impl.PaintCell(d.World, n, k, i)
	}
	return impl.PlaceAnt(d.World, n, k, i)
}

// askCall returns what the call comes to that a line names which asks, told as a reply.
func askCall(d impl.Desk, name string, n int) (string, bool) {
	number := func(n int, ok bool) (string, bool) { return strconv.Itoa(n), ok }
	list := func(list []int, ok bool) (string, bool) { return commas(list...), ok }
	switch name {
	case "show":
		return impl.WorldText(d.World)
	case "colours":
		return list(impl.CountColours(d.World))
	case "turns":
		turns, ok := impl.TurnsAfter(d.World, n)
		if ok && n == 0 {
			return "-", true
		}
		return turns, ok
	case "period":
		return number(impl.PeriodOf(d.World))
	case "around":
		return number(impl.AntPeriod(d.World))
	case "cells":
		return number(impl.CellsVisited(d.World, n))
	case "visits":
		return list(impl.VisitsAfter(d.World, n))
	case "to":
		return number(impl.StepsBetween(d.World, d.Kept))
	case "at":
		x, y, way, ok := impl.PlaceAfter(d.Program, n)
		return commas(x, y, way), ok
	case "closes":
		return number(impl.ClosesAfter(d.Program))
	case "area":
		return number(impl.TwiceArea(d.Program))
	case "winding":
		return number(impl.WindingOf(d.Program))
	}
	return impl.TurtleDraws(d.Program, n)
}

// wantCalled checks a line of a desk, told by its first word and its numbers, by the call that it names, and returns whether that succeeds.
func wantCalled(t *testing.T, d impl.Desk, name string, numbers ...int) bool {
	t.Helper()
	line := name
	for _, n := range numbers {
		line += " " + strconv.Itoa(n)
	}
	numbers = append(numbers, 0, 0, 0)
	behind, reply, ok := d, "no", false
	if slices.Contains([]string{"go", "back", "turn", "mirror", "reverse", "shift", "paint", "ant"}, name) {
		var w impl.World
		if w, ok = worldCall(d, name, numbers[0], numbers[1], numbers[2]); ok {
			behind.World, reply = w, textOf(w)
		}
	} else {
		var answer string
		if answer, ok = askCall(d, name, numbers[0]); ok {
			reply = answer
		}
	}
	got, gotReply, fine := impl.DeskLine(d, line)
	wantDesk(t, line+" of "+deskName(d), got, fine, behind)
	wantText(t, "the reply to "+line+" of "+deskName(d), gotReply, fine, reply, true)
	return ok
}

// The lines without numbers, on all sample desks.
func TestLinesDoWhatTheirCallsDo(t *testing.T) {
	succeeded, failed := map[string]int{}, map[string]int{}
	for _, d := range sampleDesks() {
		for name, form := range lineForms {
			if form != "" || name == "keep" || name == "swap" {
				continue
			}
			if wantCalled(t, d, name) {
				succeeded[name]++
			} else {
				failed[name]++
			}
			wantLine(t, d, name)
		}
	}
	for _, name := range []string{"turn", "mirror", "reverse", "show", "colours", "period", "around", "to", "closes", "area", "winding"} {
		if succeeded[name] < 10 {
			t.Errorf("%s has succeeded %d times", name, succeeded[name])
		}
	}
	for _, name := range []string{"period", "to", "closes", "area", "winding"} {
		if failed[name] < 10 {
			t.Errorf("%s has failed %d times", name, failed[name])
		}
	}
}

// The lines with a number, up to the limits of their calls and beyond.
func TestLinesWithANumberDoWhatTheirCallsDo(t *testing.T) {
	for i, d := range sampleDesks() {
		for _, name := range []string{"go", "back", "turns", "cells", "visits", "at", "draw"} {
			for _, n := range []int{0, 1, 2, 3, 5, 10 + i, 99, 100, 101, 999999} {
				wantCalled(t, d, name, n)
				wantLine(t, d, name+" "+strconv.Itoa(n))
			}
			if i%20 == 0 {
				for _, n := range []int{2999, 3000, 3001} {
					wantCalled(t, d, name, n)
					wantLine(t, d, name+" "+strconv.Itoa(n))
				}
			}
		}
	}
}

// The lines with the numbers of a cell: all cells, and those behind the edges.
func TestLinesWithACellDoWhatTheirCallsDo(t *testing.T) {
	for _, d := range sampleDesks() {
		if d.World.Width*d.World.Height > 20 {
			continue
		}
		done := 0
		for x := range d.World.Width + 1 {
			for y := range d.World.Height + 1 {
				if wantCalled(t, d, "shift", x, y) {
					done++
				}
				wantLine(t, d, "shift "+strconv.Itoa(x)+" "+strconv.Itoa(y))
				for i := range 7 {
					wantCalled(t, d, "paint", x, y, i)
					wantCalled(t, d, "ant", x, y, i)
					wantLine(t, d, "paint "+strconv.Itoa(x)+" "+strconv.Itoa(y)+" "+strconv.Itoa(i))
					wantLine(t, d, "ant "+strconv.Itoa(x)+" "+strconv.Itoa(y)+" "+strconv.Itoa(i))
				}
			}
		}
		if done != len(d.World.Cells) {
			t.Errorf("%d shifts of %s are done", done, deskName(d))
		}
	}
}

// The lines that name a world, a program, or the rule and the size of an empty world.
func TestLinesWithTextsDoWhatTheirCallsDo(t *testing.T) {
	desks := sampleDesks()
	for i, d := range desks {
		other := desks[(i+5)%len(desks)]
		text, _ := impl.WorldText(other.World)
		got, reply, ok := impl.DeskLine(d, "world "+text)
		wantDesk(t, "world "+text, got, ok, impl.Desk{World: other.World, Kept: d.Kept, Program: d.Program})
		wantText(t, "the reply to world "+text, reply, ok, text, true)
		got, reply, ok = impl.DeskLine(d, "program "+other.Program)
		wantDesk(t, "program "+other.Program, got, ok, impl.Desk{World: d.World, Kept: d.Kept, Program: other.Program})
		wantText(t, "the reply to program "+other.Program, reply, ok, other.Program, true)
	}
	for _, rule := range []string{"L", "RL", "LRN", "LRNU", "UUUUU", "LRNULR"} {
		for width := range 11 {
			for height := range 11 {
				line := "empty " + rule + " " + strconv.Itoa(width) + " " + strconv.Itoa(height)
				behind, reply := wantLine(t, impl.FirstDesk(), line)
				w, ok := impl.EmptyWorld(rule, width, height)
				if !ok {
					wantText(t, "the reply to "+line, reply, true, "no", true)
				} else if behind.World != w {
					t.Errorf("the world behind %s is %s", line, textOf(behind.World))
				}
			}
		}
	}
}

// Worlds that are kept and exchanged, step by step.
func TestKeptWorlds(t *testing.T) {
	for _, d := range sampleDesks() {
		kept, _ := wantLine(t, d, "keep")
		if kept != (impl.Desk{World: d.World, Kept: d.World, Program: d.Program}) {
			t.Errorf("behind keep there is %s", deskName(kept))
		}
		swapped, reply := wantLine(t, d, "swap")
		if swapped != (impl.Desk{World: d.Kept, Kept: d.World, Program: d.Program}) || reply != textOf(d.Kept) {
			t.Errorf("behind swap there is %s; the reply is %s", deskName(swapped), reply)
		}
		again, _ := wantLine(t, swapped, "swap")
		wantDesk(t, "swap twice", again, true, d)
		_, reply = wantLine(t, kept, "to")
		wantText(t, "to behind keep", reply, true, "0", true)
	}
}

// Scripts of many lines have the replies, the desks and the failed lines that their lines have one after the other.
func TestScriptsDoTheirLinesOneAfterTheOther(t *testing.T) {
	n := &numbers{last: 131}
	fine, no, what := 0, 0, 0
	for range 300 {
		lines := make([]string, n.below(51))
		for i := range lines {
			lines[i] = n.someLine()
		}
		for len(scriptOf(lines)) > 3000 {
			lines = lines[1:]
		}
		replies := wantScript(t, lines...)
		d := impl.FirstDesk()
		for i, line := range lines {
			behind, reply, ok := impl.DeskLine(d, line)
			wantText(t, "DeskLine of "+line, reply, ok, replies[i], true)
			d = behind
			switch reply {
			case "no":
				no++
			case "what":
				what++
			default:
				fine++
			}
		}
		after, ok := impl.DeskAfter(scriptOf(lines))
		wantDesk(t, "DeskAfter", after, ok, d)
	}
	if fine < 1000 || no < 200 || what < 200 {
		t.Errorf("%d lines are executed, %d fail and %d mean nothing", fine, no, what)
	}
}

// The beginning of a script has the first of its replies and of its failed lines.
func TestBeginningsOfScripts(t *testing.T) {
	n := &numbers{last: 133}
	lines := make([]string, 40)
	for i := range lines {
		lines[i] = n.someLine()
	}
	all, ok := impl.RunScript(scriptOf(lines))
	if !ok {
		t.Fatalf("RunScript of %q fails", lines)
	}
	for count := range 41 {
		got := wantScript(t, lines[:count]...)
		if !slices.Equal(got, all[:count]) {
			t.Errorf("the first %d replies are %q; want %q", count, got, all[:count])
		}
	}
}

// Steps that are undone, and worlds turned, mirrored and reversed so often that they are as before, lead a script back.
func TestScriptsLeadBack(t *testing.T) {
	for _, w := range sampleWorlds() {
		for _, lines := range [][]string{
			{"go 17", "back 17"}, {"back 3000", "go 3000"}, {"turn", "turn", "turn", "turn"}, {"mirror", "mirror"}, {"reverse", "reverse"}, {"reverse", "go 9", "reverse", "go 9"}, {"swap", "go 5", "swap"}, {"keep", "go 7", "swap"}, {"shift 0 0"}, {"fly", "go 3001", "", "empty X 1 1"},
		} {
			script := append([]string{"world " + textOf(w)}, lines...)
			wantScript(t, script...)
			d, ok := impl.DeskAfter(scriptOf(script))
			if d.World != w || !ok {
				t.Errorf("behind %s there is %s", strings.Join(script, ", "), deskName(d))
			}
		}
	}
}
