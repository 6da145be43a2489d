package tests

import (
	"regexp"
	"slices"
	"strconv"
	"strings"
	"testing"

	"loop.example/g01276/impl"
)

// lineForms are the lines of the document's table, by their first word: W, R and S are a WorldText, a rule and a program, N, K and I are numbers.
var lineForms = map[string]string{
	"world": "W", "empty": "RNK", "go": "N", "back": "N", "turn": "", "mirror": "", "reverse": "", "shift": "NK", "paint": "NKI", "ant": "NKI", "keep": "", "swap": "", "program": "S",
	"show": "", "colours": "", "turns": "N", "period": "", "around": "", "cells": "N", "visits": "N", "to": "", "at": "N", "closes": "", "area": "", "winding": "", "draw": "N",
}

// lineNames are the first words of these lines in the order of bytes.
func lineNames() []string {
	var names []string
	for name := range lineForms {
		names = append(names, name)
	}
	slices.Sort(names)
	return names
}

// wordForms are how the words of a kind look.
var wordForms = map[rune]*regexp.Regexp{
	'N': regexp.MustCompile(`\A(0|[1-9][0-9]{0,5})\z`),
	'R': regexp.MustCompile(`\A[LRNU]{1,6}\z`),
	'S': regexp.MustCompile(`\A([0-9][LRNU]){1,9}\z`),
	'W': regexp.MustCompile(`\A([LRNU]{1,6}):([1-9])x([1-9]):([0-5]{1,81}):([0-8]),([0-8]),([0-3])\z`),
}

// worldIn returns the world of a WorldText, read from the document's words alone.
func worldIn(text string) (w impl.World, ok bool) {
	parts := wordForms['W'].FindStringSubmatch(text)
	if parts == nil {
		return impl.World{}, false
	}
	n := numbersIn(parts[2], parts[3], parts[5], parts[6], parts[7])
	w = impl.World{Rule: parts[1], Width: n[0], Height: n[1], Cells: parts[4], X: n[2], Y: n[3], Way: n[4]}
	if len(w.Cells) != w.Width*w.Height || w.X >= w.Width || w.Y >= w.Height {
		return impl.World{}, false
	}
	return w, !strings.ContainsFunc(w.Cells, func(cell rune) bool { return int(cell-'0') >= len(w.Rule) })
}

// textOf returns the text of a world.
func textOf(w impl.World) string {
	return w.Rule + ":" + strconv.Itoa(w.Width) + "x" + strconv.Itoa(w.Height) + ":" + w.Cells + ":" + commas(w.X, w.Y, w.Way)
}

// commas returns numbers with commas between them.
func commas(numbers ...int) string {
	var text strings.Builder
	for i, n := range numbers {
		if i > 0 {
			text.WriteString(",")
		}
		text.WriteString(strconv.Itoa(n))
	}
	return text.String()
}

// numbersIn returns the numbers of words, 0 for those that are none.
func numbersIn(words ...string) []int {
	list := make([]int, len(words))
	for i, word := range words {
		list[i], _ = strconv.Atoi(word)
	}
	return list
}

// isWord reports whether a word is one of a kind.
func isWord(kind rune, word string) bool {
	switch kind {
	case 'W':
		_, ok := worldIn(word)
		return ok
	case 'K', 'I':
		kind = 'N'
	}
	return wordForms[kind].MatchString(word)
}

// plainBack returns the world so many steps before: of the worlds whose ant is beside, the one from which a step leads to it.
func plainBack(w impl.World, steps int) impl.World {
	for range steps {
		w = plainBefore(w)
	}
	return w
}

func plainBefore(w impl.World) impl.World {
	for _, at := range [][2]int{{w.X, w.Y}, {w.X + 1, w.Y}, {w.X + w.Width - 1, w.Y}, {w.X, w.Y + 1}, {w.X, w.Y + w.Height - 1}} {
		v := w
		v.X, v.Y = at[0]%w.Width, at[1]%w.Height
		cell := v.Y*w.Width + v.X
		for colour := range len(w.Rule) {
			v.Cells = w.Cells[:cell] + string("012345"[colour]) + w.Cells[cell+1:]
			for v.Way = range 4 {
				if _, next := plainStep(v); next == w {
					return v
				}
			}
		}
	}
	return impl.World{}
}

// plainMoved returns the world with each cell and the ant moved to another place, of a size.
func plainMoved(w impl.World, width, height int, place func(x, y int) (int, int)) impl.World {
	grid := map[[2]int]byte{}
	for cell := range len(w.Cells) {
		x, y := place(cell%w.Width, cell/w.Width)
		grid[[2]int{x, y}] = w.Cells[cell]
	}
	w.X, w.Y = place(w.X, w.Y)
	w.Width, w.Height, w.Cells = width, height, ""
	for y := range height {
		for x := range width {
			w.Cells += string(rune(grid[[2]int{x, y}]))
		}
	}
	return w
}

// plainTurned returns the world turned by a quarter to the right.
func plainTurned(w impl.World) impl.World {
	turned := plainMoved(w, w.Height, w.Width, func(x, y int) (int, int) { return w.Height - 1 - y, x })
	turned.Way = []int{1, 2, 3, 0}[w.Way]
	return turned
}

// plainMirrored returns the world with its rows told backwards.
func plainMirrored(w impl.World) impl.World {
	mirrored := plainMoved(w, w.Width, w.Height, func(x, y int) (int, int) { return w.Width - 1 - x, y })
	mirrored.Way = []int{0, 3, 2, 1}[w.Way]
	mirrored.Rule = exchangedSigns(w.Rule)
	return mirrored
}

// plainReversed returns the world whose steps lead back.
func plainReversed(w impl.World) impl.World {
	signs := []byte(exchangedSigns(w.Rule))
	slices.Reverse(signs)
	cells := []byte(w.Cells)
	for i, cell := range cells {
		cells[i] = "0123456"[(len(w.Rule)-int(cell-'0'))%len(w.Rule)]
	}
	// A step of an ant that does not turn leads on by a cell along its way.
	_, on := plainStep(impl.World{Rule: "U", Width: w.Width, Height: w.Height, Cells: strings.Repeat("0", len(w.Cells)), X: w.X, Y: w.Y, Way: w.Way})
	on.Rule, on.Cells = string(signs), string(cells)
	return on
}

// plainEffect returns the desk behind a line with an effect, or ok false if the function of the line fails.
func plainEffect(d impl.Desk, words []string) (behind impl.Desk, ok bool) {
	w := d.World
	n := append(numbersIn(words[1:]...), 0, 0, 0)
	has := n[0] < w.Width && n[1] < w.Height
	switch words[0] {
	case "world":
		d.World, _ = worldIn(words[1])
	case "empty":
		width, height := n[1], n[2]
		if width < 1 || width > 9 || height < 1 || height > 9 {
			return d, false
		}
		d.World = impl.World{Rule: words[1], Width: width, Height: height, Cells: strings.Repeat("0", width*height)}
	case "go", "back":
		if n[0] > 3000 {
			return d, false
		}
		if words[0] == "go" {
			_, d.World = plainSteps(w, n[0])
		} else {
			d.World = plainBack(w, n[0])
		}
	case "turn":
		d.World = plainTurned(w)
	case "mirror":
		d.World = plainMirrored(w)
	case "reverse":
		d.World = plainReversed(w)
	case "shift":
		d.World = plainMoved(w, w.Width, w.Height, func(x, y int) (int, int) { return (x + n[0]) % w.Width, (y + n[1]) % w.Height })
		return d, has
	case "paint":
		if !has || n[2] >= len(w.Rule) {
			return d, false
		}
		cells := []byte(w.Cells)
		cells[n[1]*w.Width+n[0]] = "012345"[n[2]]
		d.World.Cells = string(cells)
	case "ant":
		d.World.X, d.World.Y, d.World.Way = n[0], n[1], n[2]
		return d, has && n[2] < 4
	case "keep":
		d.Kept = w
	case "swap":
		d.World, d.Kept = d.Kept, w
	case "program":
		d.Program = words[1]
	}
	return d, true
}

// plainAnswer returns the reply to a line that asks, or ok false if the function of the line fails.
func plainAnswer(d impl.Desk, name string, n int) (reply string, ok bool) {
	w := d.World
	number := func(n int, fine bool) (string, bool) { return strconv.Itoa(n), fine }
	switch name {
	case "show":
		return textOf(w), true
	case "colours":
		var counts []int
		for colour := range len(w.Rule) {
			counts = append(counts, strings.Count(w.Cells, strconv.Itoa(colour)))
		}
		return commas(counts...), true
	case "period":
		return number(comesTo(w, 1, func(v impl.World) bool { return v == w }))
	case "around":
		return number(comesTo(w, 1, func(v impl.World) bool { return [3]int{v.X, v.Y, v.Way} == [3]int{w.X, w.Y, w.Way} }))
	case "to":
		return number(comesTo(w, 0, func(v impl.World) bool { return v == d.Kept }))
	case "at", "draw":
		return plainTurtle(d.Program, name, n)
	case "closes", "area", "winding":
		return plainClosing(d.Program, name)
	}
	if n > 3000 {
		return "", false
	}
	visits := plainVisits(w, n)
	switch name {
	case "turns":
		signs, _ := plainSteps(w, n)
		if n == 0 {
			signs = "-"
		}
		return signs, true
	case "cells":
		return number(len(visits)-count(visits, 0), true)
	}
	return commas(visits...), name == "visits"
}

// count returns how often a number is in a list.
func count(list []int, n int) int {
	times := 0
	for _, m := range list {
		if m == n {
			times++
		}
	}
	return times
}

// plainTurtle returns the reply to a line that asks for so many repeats of a program.
func plainTurtle(program, name string, repeats int) (reply string, ok bool) {
	if repeats > 100 {
		return "", false
	}
	trail := trailOf(program, repeats)
	if name == "at" {
		at := trail.number()
		return commas(at[:]...), true
	}
	if len(trail.points) > 401 {
		return "", false
	}
	return plainDrawing(trail.points)
}

// plainClosing returns the reply to a line that asks for the repeats behind which a program closes.
func plainClosing(program, name string) (reply string, ok bool) {
	repeats, ok := plainCloses(program)
	trail := trailOf(program, repeats)
	switch name {
	case "closes":
		return strconv.Itoa(repeats), ok
	case "area":
		return strconv.Itoa(plainArea(trail.points)), ok
	}
	return strconv.Itoa(trail.rights / 4), ok && !strings.Contains(program, "U")
}

// plainObey returns the desk behind a line and its reply, found from the document's words alone.
func plainObey(d impl.Desk, line string) (impl.Desk, string) {
	words := strings.Split(line, " ")
	form, is := lineForms[words[0]]
	if !is || len(form) != len(words)-1 {
		return d, "what"
	}
	for i, kind := range form {
		if !isWord(kind, words[i+1]) {
			return d, "what"
		}
	}
	behind, ok := plainEffect(d, words)
	if !ok {
		return d, "no"
	}
	switch words[0] {
	case "world", "empty", "go", "back", "turn", "mirror", "reverse", "shift", "paint", "ant", "keep", "swap":
		return behind, textOf(behind.World)
	case "program":
		return behind, behind.Program
	}
	reply, ok := plainAnswer(d, words[0], append(numbersIn(words[1:]...), 0)[0])
	if !ok {
		return d, "no"
	}
	return d, reply
}

// firstDesk returns the desk on which scripts begin.
func firstDesk() impl.Desk {
	w := impl.World{Rule: "LR", Width: 3, Height: 3, Cells: "000000000", X: 1, Y: 1}
	return impl.Desk{World: w, Kept: w, Program: "1R"}
}

// deskOf returns the desk of two WorldTexts and a program.
func deskOf(world, kept, program string) impl.Desk {
	w, _ := worldIn(world)
	v, _ := worldIn(kept)
	return impl.Desk{World: w, Kept: v, Program: program}
}

// deskName tells a desk in one line.
func deskName(d impl.Desk) string { return textOf(d.World) + " " + textOf(d.Kept) + " " + d.Program }

// scriptOf returns the script of lines.
func scriptOf(lines []string) string {
	script := ""
	for _, line := range lines {
		script += line + "\n"
	}
	return script
}

// shortened returns the beginning of a long text.
func shortened(text string) string { return text[:min(len(text), 200)] }

// wantDesk checks that a call succeeded with a desk.
func wantDesk(t *testing.T, call string, got impl.Desk, ok bool, want impl.Desk) {
	t.Helper()
	if got != want || !ok {
		t.Errorf("%s is %s, %v; want %s", call, deskName(got), ok, deskName(want))
	}
}

// wantLine checks the desk behind a line and its reply, and returns both.
func wantLine(t *testing.T, d impl.Desk, line string) (impl.Desk, string) {
	t.Helper()
	behind, reply := plainObey(d, line)
	got, gotReply, ok := impl.DeskLine(d, line)
	what := "DeskLine of " + deskName(d) + " and " + strconv.Quote(shortened(line))
	wantDesk(t, what, got, ok, behind)
	wantText(t, what, gotReply, ok, reply, true)
	return behind, reply
}

// wantScript checks the replies to the lines of a script, the desk behind it and its failed lines, and returns the replies.
func wantScript(t *testing.T, lines ...string) []string {
	t.Helper()
	d := firstDesk()
	var replies []string
	var failed []int
	for i, line := range lines {
		behind, reply := plainObey(d, line)
		if reply == "no" || reply == "what" {
			failed = append(failed, i+1)
		}
		d, replies = behind, append(replies, reply)
	}
	script := scriptOf(lines)
	what := strconv.Quote(shortened(script))
	got, ok := impl.RunScript(script)
	if !slices.Equal(got, replies) || !ok {
		t.Errorf("RunScript of %s is %q, %v; want %q", what, got, ok, replies)
	}
	desk, ok := impl.DeskAfter(script)
	wantDesk(t, "DeskAfter of "+what, desk, ok, d)
	numbers, ok := impl.FailedLines(script)
	wantList(t, "FailedLines of "+what, numbers, ok, failed...)
	return replies
}

// wantReplies checks the replies to lines of a script, told by hand: each line is followed by its reply.
func wantReplies(t *testing.T, told ...string) {
	t.Helper()
	var lines, replies []string
	for i := 0; i < len(told); i += 2 {
		lines, replies = append(lines, told[i]), append(replies, told[i+1])
	}
	if got := wantScript(t, lines...); !slices.Equal(got, replies) {
		t.Errorf("the replies to %q are %q; want %q", lines, got, replies)
	}
}

// sampleDesks returns desks with all sample worlds and many programs, also with worlds that lead to the kept ones.
func sampleDesks() []impl.Desk {
	programs := samplePrograms()
	worlds := sampleWorlds()
	desks := []impl.Desk{firstDesk()}
	for i, w := range worlds {
		_, later := plainSteps(w, i*i)
		for k, kept := range []impl.World{later, worlds[(i+1)%len(worlds)], w} {
			desks = append(desks, impl.Desk{World: w, Kept: kept, Program: programs[(7*i+31*k)%len(programs)]})
		}
	}
	return desks
}

// someNumber returns the text of a number that is often a small one, and sometimes one beside a limit.
func (n *numbers) someNumber() string {
	if n.below(5) > 0 {
		return strconv.Itoa(n.below(10))
	}
	return []string{"0", "99", "100", "101", "2999", "3000", "3001", "999999", "1000000", "00", "01", "-1", "+1", "", "x"}[n.below(15)]
}

// someLine returns a line that means something, most often.
func (n *numbers) someLine() string {
	names := lineNames()
	line := names[n.below(len(names))]
	for _, kind := range lineForms[line] {
		line += " "
		switch kind {
		case 'W':
			line += textOf(n.someWorld(n.someRule(1+n.below(6)), 1+n.below(4), 1+n.below(4)))
		case 'R':
			line += n.someRule(1 + n.below(6))
		case 'S':
			line += n.someProgram(1+n.below(4), 3)
		default:
			line += n.someNumber()
		}
	}
	switch n.below(20) {
	case 0:
		line += " " + n.someNumber()
	case 1:
		line = line[:n.below(len(line))]
	}
	return line
}
