package tests

import (
	"math"
	"slices"
	"strconv"
	"strings"
	"sync"
	"testing"

	"loop.example/g01276/impl"
)

// These are tests of the promise that every function accepts all arguments, for the console: invalid ones give zero values.

// wantNoScript checks that a text is no script, after which all results are zero.
func wantNoScript(t *testing.T, text string) {
	t.Helper()
	what := strconv.Quote(shortened(text))
	replies, ok := impl.RunScript(text)
	if len(replies) > 0 || ok {
		t.Errorf("RunScript of %s is %q, %v", what, replies, ok)
	}
	d, ok := impl.DeskAfter(text)
	if d != (impl.Desk{}) || ok {
		t.Errorf("DeskAfter of %s is %+v, %v", what, d, ok)
	}
	numbers, ok := impl.FailedLines(text)
	if len(numbers) > 0 || ok {
		t.Errorf("FailedLines of %s are %v, %v", what, numbers, ok)
	}
}

// wantNoLine checks that DeskLine fails, after which its results are zero.
func wantNoLine(t *testing.T, d impl.Desk, line string) {
	t.Helper()
	behind, reply, ok := impl.DeskLine(d, line)
	if behind != (impl.Desk{}) || reply != "" || ok {
		t.Errorf("DeskLine of %+v and %q is %+v, %q, %v", d, shortened(line), behind, reply, ok)
	}
}

// invalidDesks returns desks of which just one part is none, or all are.
func invalidDesks() []impl.Desk {
	desks := []impl.Desk{{}, {World: firstDesk().World}, {Kept: firstDesk().Kept}, {Program: "1R"}, {World: firstDesk().World, Kept: firstDesk().Kept}}
	change := func(f func(d *impl.Desk)) {
		d := deskOf("LRU:3x2:012012:2,1,3", "RL:2x2:0110:1,1,1", "3L4U")
		f(&d)
		desks = append(desks, d)
	}
	for _, w := range invalidWorlds() {
		if len(w.Rule) > 1000 || len(w.Cells) > 1000 {
			continue
		}
		change(func(d *impl.Desk) { d.World = w })
		change(func(d *impl.Desk) { d.Kept = w })
		change(func(d *impl.Desk) { d.World, d.Kept = w, w })
	}
	for _, program := range invalidPrograms() {
		if len(program) < 1000 {
			change(func(d *impl.Desk) { d.Program = program })
		}
	}
	return desks
}

// Each line fails on a desk that is none, also one that means nothing or that does not need the part that is wrong.
func TestInvalidDesksGiveZeroValues(t *testing.T) {
	lines := []string{"", "show", "fly", "go 1", "go 3001", "keep", "swap", "world LR:1x1:0:0,0,0", "program 1R", "empty LR 3 3", "at 1", "closes", "to", "period", "turns 0", "draw 1", "go 1 ", "x\n", strings.Repeat("x", 3001)}
	for _, d := range invalidDesks() {
		for _, line := range lines {
			wantNoLine(t, d, line)
		}
	}
	huge := impl.Desk{World: impl.World{Rule: strings.Repeat("L", 100000), Width: 1, Height: 1, Cells: "0"}, Kept: firstDesk().Kept, Program: strings.Repeat("1R", 100000)}
	for _, line := range lines {
		wantNoLine(t, huge, line)
	}
}

func TestInvalidLinesGiveZeroValues(t *testing.T) {
	for _, d := range []impl.Desk{impl.FirstDesk(), deskOf("LRU:3x2:012012:2,1,3", "RL:2x2:0110:1,1,1", "3L4U")} {
		for _, line := range []string{"\n", "show\n", "\nshow", "show\nshow", "go 1\n", "go\n1", "\n\n", "fly\n", "turns 0\n", " \n", "x\n" + strings.Repeat("x", 2998), strings.Repeat("x", 2999) + "\n"} {
			wantNoLine(t, d, line)
		}
		for _, line := range []string{strings.Repeat("x", 3001), strings.Repeat(" ", 3001), "show" + strings.Repeat(" ", 2997), "go " + strings.Repeat("0", 2998), strings.Repeat("\n", 3001), strings.Repeat("x", 1000000), "program " + strings.Repeat("1R", 100000), "world LR:1x1:" + strings.Repeat("0", 100000) + ":0,0,0"} {
			wantNoLine(t, d, line)
		}
	}
}

func TestTextsThatAreNoScripts(t *testing.T) {
	for _, text := range []string{
		"show", "\nshow", "show\nshow", " ", "\x00", "\xff", "\r", "show\r", "x",
		strings.Repeat("\n", 51), strings.Repeat("\n", 3000), strings.Repeat("\n", 3001), strings.Repeat("\n", 1000000), strings.Repeat("go 1\n", 51), strings.Repeat("go 1\n", 600), strings.Repeat("x", 3000) + "\n", strings.Repeat("x", 2999) + "x", strings.Repeat("x", 1000000) + "\n", strings.Repeat("x", 1000000),
		strings.Repeat(strings.Repeat("x", 59)+"\n", 50) + "\n", strings.Repeat(strings.Repeat("x", 60)+"\n", 50), strings.Repeat("show\n", 50) + "show", strings.Repeat("show\n", 50) + " ",
	} {
		wantNoScript(t, text)
	}
}

// Each text of few bytes is a script if, and only if, it is empty or a newline ends it.
func TestShortTexts(t *testing.T) {
	for one := range 256 {
		for two := range 256 {
			text := string([]byte{byte(one), byte(two)})
			if two != '\n' {
				wantNoScript(t, text)
			} else {
				wantScript(t, strings.Split(text[:1], "\n")...)
			}
		}
	}
}

// Lines that differ from one that means something by one byte mean what the document tells.
func TestLinesOneByteFromThoseThatMeanSomething(t *testing.T) {
	d := deskOf("LRU:3x2:012012:2,1,3", "RL:2x2:0110:1,1,1", "3L4U")
	right := 0
	for _, line := range []string{"world LR:2x1:01:1,0,3", "empty LR 3 9", "go 10", "back 7", "turn", "mirror", "reverse", "shift 2 1", "paint 0 0 1", "ant 1 1 3", "keep", "swap", "program 1R2L", "show", "colours", "turns 9", "period", "around", "cells 12", "visits 8", "to", "at 99", "closes", "area", "winding", "draw 3"} {
		right += oneByteFrom(line, func(other string) bool {
			if strings.Contains(other, "\n") {
				wantNoLine(t, d, other)
				return false
			}
			_, reply := wantLine(t, d, other)
			return reply != "what"
		})
	}
	if right < 300 {
		t.Errorf("%d lines mean something", right)
	}
}

// All first words of a few letters but those of the table mean nothing.
func TestAllLinesOfTwoLetters(t *testing.T) {
	for one := 'a'; one <= 'z'; one++ {
		for two := 'a'; two <= 'z'; two++ {
			line := string([]rune{one, two})
			wantLine(t, impl.FirstDesk(), line)
			wantLine(t, impl.FirstDesk(), line+" 1")
			wantLine(t, impl.FirstDesk(), line+" 1 1")
		}
	}
}

func TestDesksOfTheGreatestNumbers(t *testing.T) {
	for _, n := range []int{math.MaxInt, math.MinInt, 1 << 32, -1} {
		for _, w := range []impl.World{
			{Rule: "LR", Width: n, Height: 1, Cells: "0"}, {Rule: "LR", Width: 1, Height: n, Cells: "0"}, {Rule: "LR", Width: n, Height: n}, {Rule: "LR", Width: 1, Height: 1, Cells: "0", X: n}, {Rule: "LR", Width: 1, Height: 1, Cells: "0", Y: n}, {Rule: "LR", Width: 1, Height: 1, Cells: "0", Way: n},
		} {
			wantNoLine(t, impl.Desk{World: w, Kept: firstDesk().Kept, Program: "1R"}, "show")
			wantNoLine(t, impl.Desk{World: firstDesk().World, Kept: w, Program: "1R"}, "show")
		}
	}
}

func TestArgumentsOfConsoleAreNotModified(t *testing.T) {
	n := &numbers{last: 137}
	for _, before := range append(sampleDesks(), invalidDesks()...) {
		d, cells, line := before, strings.Clone(before.World.Cells), n.someLine()
		kept := strings.Clone(line)
		impl.IsDesk(d)
		impl.DeskLine(d, line)
		if d != before || d.World.Cells != cells || line != kept {
			t.Errorf("%+v has become %+v", before, d)
		}
	}
}

// Nothing is kept between calls, also not behind lines that fail, and not between calls at the same time.
func TestScriptsAreTheSameInEachCall(t *testing.T) {
	n := &numbers{last: 139}
	var calls sync.WaitGroup
	for range 8 {
		lines := make([]string, 40)
		for i := range lines {
			lines[i] = n.someLine()
		}
		script := scriptOf(lines)
		want, ok := impl.RunScript(script)
		if !ok {
			t.Fatalf("%q is no script", script)
		}
		for range 4 {
			calls.Add(1)
			go func() {
				defer calls.Done()
				got, ok := impl.RunScript(script)
				if !slices.Equal(got, want) || !ok {
					t.Errorf("RunScript again is %q, %v; want %q", got, ok, want)
				}
			}()
		}
	}
	calls.Wait()
	for range 3 {
		wantNoScript(t, "fly")
		wantReplies(t, "fly", "what", "go 3001", "no", "go 1", "LR:3x3:000010000:0,1,3")
	}
}
