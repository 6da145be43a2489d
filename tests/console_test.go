package tests

import (
	"slices"
	"strconv"
	"strings"
	"testing"

	"loop.example/g01276/impl"
)

func TestExampleOfConsole(t *testing.T) {
	wantReplies(t,
		"go 1", "LR:3x3:000010000:0,1,3",
		"turns 3", "LLL",
		"back 1", "LR:3x3:000000000:1,1,0",
		"to", "0",
		"around", "4",
		"cells 4", "4",
		"paint 0 0 1", "LR:3x3:100000000:1,1,0",
		"colours", "8,1",
		"shift 1 0", "LR:3x3:010000000:2,1,0",
		"program 1R2R3R", "1R2R3R",
		"at 1", "2,2,3",
		"closes", "4",
		"winding", "3",
		"empty LX 2 2", "what",
		"ant 3 0 0", "no",
		"fly", "what",
	)
}

func TestLimitsOfConsoleAreConstants(t *testing.T) {
	if impl.MaxScript != 3000 || impl.MaxLines != 50 {
		t.Error(impl.MaxScript, impl.MaxLines)
	}
}

func TestFirstDesk(t *testing.T) {
	w := read(t, "LR:3x3:000000000:1,1,0")
	if d := impl.FirstDesk(); d != (impl.Desk{World: w, Kept: w, Program: "1R"}) {
		t.Errorf("FirstDesk is %+v", d)
	}
}

func TestIsDesk(t *testing.T) {
	for _, d := range sampleDesks() {
		if !impl.IsDesk(d) {
			t.Errorf("%s is a desk", deskName(d))
		}
	}
	for _, d := range invalidDesks() {
		if impl.IsDesk(d) {
			t.Errorf("%+v is no desk", d)
		}
	}
}

// Each line with an effect changes what it names and nothing else.
func TestEffectsOfLines(t *testing.T) {
	const first, kept = "LRU:3x2:012000:1,1,1", "N:2x1:00:1,0,2"
	for line, world := range map[string]string{
		"world U:1x1:0:0,0,3": "U:1x1:0:0,0,3",
		"empty LRNULR 9 1":    "LRNULR:9x1:000000000:0,0,0",
		"empty U 1 2":         "U:1x2:00:0,0,0",
		"go 0":                first,
		"go 1":                "LRU:3x2:012010:1,0,0",
		"go 2":                "LRU:3x2:022010:2,0,1",
		"back 0":              first,
		"back 1":              "LRU:3x2:012200:0,1,3",
		"turn":                "LRU:2x3:000102:0,1,2",
		"mirror":              "RLU:3x2:210000:1,1,3",
		"reverse":             "ULR:3x2:021000:0,1,3",
		"shift 0 0":           first,
		"shift 1 0":           "LRU:3x2:201000:2,1,1",
		"shift 2 1":           "LRU:3x2:000120:0,0,1",
		"paint 0 0 0":         first,
		"paint 2 1 2":         "LRU:3x2:012002:1,1,1",
		"paint 1 0 0":         "LRU:3x2:002000:1,1,1",
		"ant 2 0 3":           "LRU:3x2:012000:2,0,3",
		"ant 0 1 0":           "LRU:3x2:012000:0,1,0",
	} {
		before := deskOf(first, kept, "3L4U")
		behind, reply, ok := impl.DeskLine(before, line)
		wantDesk(t, line, behind, ok, deskOf(world, kept, "3L4U"))
		wantText(t, "the reply to "+line, reply, ok, world, true)
		wantLine(t, before, line)
	}
	for line, behind := range map[string]impl.Desk{
		"keep":                       deskOf(first, first, "3L4U"),
		"swap":                       deskOf(kept, first, "3L4U"),
		"program 0N":                 deskOf(first, kept, "0N"),
		"program 1R2R3R4L5L6N7N8U9U": deskOf(first, kept, "1R2R3R4L5L6N7N8U9U"),
	} {
		reply := map[string]string{"keep": first, "swap": kept}[line]
		if program, is := strings.CutPrefix(line, "program "); is {
			reply = program
		}
		got, gotReply, ok := impl.DeskLine(deskOf(first, kept, "3L4U"), line)
		wantDesk(t, line, got, ok, behind)
		wantText(t, "the reply to "+line, gotReply, ok, reply, true)
		wantLine(t, deskOf(first, kept, "3L4U"), line)
	}
}

// Each line that asks has its reply and changes nothing.
func TestRepliesToLinesThatAsk(t *testing.T) {
	d := deskOf("LR:3x3:000000000:1,1,0", "LR:3x3:000110100:1,2,1", "1R2R3R")
	for line, reply := range map[string]string{
		"show": "LR:3x3:000000000:1,1,0", "colours": "9,0",
		"turns 0": "-", "turns 1": "L", "turns 5": "LLLLR",
		"around": "4", "cells 0": "0", "cells 1": "1", "cells 3000": "9",
		"visits 0": "0,0,0,0,0,0,0,0,0", "visits 1": "0,0,0,0,1,0,0,0,0", "visits 4": "0,0,0,1,1,0,1,1,0",
		"to":   "3",
		"at 0": "0,0,0", "at 1": "2,2,3", "at 4": "0,0,0",
		"closes": "4", "area": "16", "winding": "3",
		"draw 0": "#", "draw 1": "###/#.#/..#/..#",
	} {
		got, gotReply, ok := impl.DeskLine(d, line)
		wantDesk(t, line, got, ok, d)
		wantText(t, "the reply to "+line, gotReply, ok, reply, true)
		wantLine(t, d, line)
	}
	for world, period := range map[string]string{"LR:1x1:0:0,0,0": "2", "L:2x2:0000:0,0,0": "4", "N:3x1:000:0,0,1": "3", "U:1x1:0:0,0,0": "2"} {
		asked := deskOf(world, world, "1R")
		_, reply, ok := impl.DeskLine(asked, "period")
		wantText(t, "period of "+world, reply, ok, period, true)
		wantLine(t, asked, "period")
	}
}

// Numbers less than 0 have a sign in front: places to the left and above, areas and windings to the left.
func TestNumbersLessThanNothingInReplies(t *testing.T) {
	wantReplies(t,
		"program 1L1L1L1L", "1L1L1L1L", "area", "-2", "winding", "-1", "at 1", "0,0,0",
		"program 2L", "2L", "at 1", "0,-2,3", "at 2", "-2,-2,2", "at 3", "-2,0,1", "area", "-8", "winding", "-1",
		"program 9N9N9N9N9N9N9N9N9N", "9N9N9N9N9N9N9N9N9N", "at 100", "0,-8100,0", "closes", "no", "area", "no", "winding", "no",
		"program 3L4U", "3L4U", "at 1", "-4,-3,1", "winding", "no",
		"program 1L2L3L", "1L2L3L", "winding", "-3",
	)
}

func TestEmptyScript(t *testing.T) {
	if got := wantScript(t); len(got) != 0 {
		t.Errorf("the replies to no lines are %q", got)
	}
	d, ok := impl.DeskAfter("")
	wantDesk(t, "DeskAfter of the empty script", d, ok, impl.FirstDesk())
}

func TestEmptyLines(t *testing.T) {
	wantReplies(t, "", "what")
	wantReplies(t, "", "what", "", "what", "show", "LR:3x3:000000000:1,1,0", "", "what")
	numbers, ok := impl.FailedLines("\n\nshow\n\n")
	wantList(t, "FailedLines", numbers, ok, 1, 2, 4)
	d, reply, ok := impl.DeskLine(impl.FirstDesk(), "")
	wantDesk(t, "DeskLine of an empty line", d, ok, impl.FirstDesk())
	wantText(t, "DeskLine of an empty line", reply, ok, "what", true)
}

// Single blanks separate words, so that one more gives an empty word, which is one too many or tells nothing.
func TestEmptyWords(t *testing.T) {
	for _, line := range []string{
		" ", "  ", " show", "show ", "  show", "show  ", " go 1", "go 1 ", "go  1", "go ", "go  ", "turn ", " turn", "paint  0 0 1", "paint 0  0 1", "paint 0 0  1", "paint 0 0 1 ", "paint 0 0 ", "paint  0 1", "paint 0  1",
		"world ", "world  LR:1x1:0:0,0,0", "world LR:1x1:0:0,0,0 ", "program ", "program  1R", "program 1R ", "empty  1 1", "empty L  1", "empty L 1 ", "empty  L 1 1", "shift  0", "shift 0 ", "shift  0 0", "ant  0 0", "ant 0 0 ", "turns ", "at ", "draw ", "cells ", "visits ", "back ",
	} {
		wantRefused(t, "what", line)
	}
}

// wantRefused checks that a line has a reply that tells of no effect, and changes nothing.
func wantRefused(t *testing.T, reply, line string) {
	t.Helper()
	for _, d := range []impl.Desk{impl.FirstDesk(), deskOf("LRU:9x9:"+strings.Repeat("012", 27)+":8,8,2", "RL:2x2:0110:1,1,1", "3L4U")} {
		behind, got, ok := impl.DeskLine(d, line)
		wantDesk(t, strconv.Quote(shortened(line)), behind, ok, d)
		wantText(t, "the reply to "+strconv.Quote(shortened(line)), got, ok, reply, true)
		wantLine(t, d, line)
	}
}

// Lines with too few and with too many words.
func TestLinesWithOtherNumbersOfWords(t *testing.T) {
	words := map[rune]string{'W': "LR:1x1:0:0,0,0", 'R': "LR", 'S': "1R", 'N': "1", 'K': "1", 'I': "1"}
	for name, form := range lineForms {
		line := name
		for i, kind := range form {
			wantRefused(t, "what", line)
			line += " " + words[kind]
			if behind, reply := wantLine(t, impl.FirstDesk(), line); i == len(form)-1 && reply == "what" {
				t.Errorf("the reply to %q is what; the desk behind is %s", line, deskName(behind))
			}
		}
		for _, word := range []string{"", "0", "1", "LR", "1R", "LR:1x1:0:0,0,0", name, "x"} {
			wantRefused(t, "what", line+" "+word)
			wantRefused(t, "what", line+" "+word+" "+word)
		}
	}
}

// wantedNumber is a line that asks for a number.
type wantedNumber struct {
	line  string // ends before the number
	rest  string // is behind the number
	most  int    // is the greatest number with which the function succeeds on the first desk
	reply string // is the reply to 0
}

func wantedNumbers() []wantedNumber {
	const first = "LR:3x3:000000000:1,1,0"
	return []wantedNumber{
		{"go ", "", 3000, first}, {"back ", "", 3000, first}, {"turns ", "", 3000, "-"}, {"cells ", "", 3000, "0"}, {"visits ", "", 3000, "0,0,0,0,0,0,0,0,0"}, {"at ", "", 100, "0,0,0"}, {"draw ", "", 100, "#"},
		{"shift ", " 0", 2, first}, {"shift 0 ", "", 2, first}, {"paint ", " 0 0", 2, first}, {"paint 0 ", " 0", 2, first}, {"paint 0 0 ", "", 1, first},
		{"ant ", " 1 0", 2, "LR:3x3:000000000:0,1,0"}, {"ant 1 ", " 0", 2, "LR:3x3:000000000:1,0,0"}, {"ant 1 1 ", "", 3, first}, {"empty L ", " 1", 9, "no"}, {"empty L 1 ", "", 9, "no"},
	}
}

// Numbers are 0..999999: those that a function does not take have the reply no, and all other words what.
func TestNumbersOfLines(t *testing.T) {
	for _, c := range wantedNumbers() {
		if _, reply := wantLine(t, impl.FirstDesk(), c.line+"0"+c.rest); reply != c.reply {
			t.Errorf("the reply to %q is %q", c.line+"0"+c.rest, reply)
		}
		for _, n := range []int{1, c.most - 1, c.most} {
			if _, reply := wantLine(t, impl.FirstDesk(), c.line+strconv.Itoa(n)+c.rest); n > 0 && (reply == "no" || reply == "what") {
				t.Errorf("the reply to %q is %q", c.line+strconv.Itoa(n)+c.rest, reply)
			}
		}
		for _, n := range []int{c.most + 1, 3001, 99999, 100000, 999998, 999999} {
			wantFails(t, c.line+strconv.Itoa(n)+c.rest)
		}
		for _, word := range []string{
			"1000000", "1000001", "9999999", "4294967296", "4294967297", "9223372036854775807", "9223372036854775808", "18446744073709551616", "18446744073709551617", "99999999999999999999999", strings.Repeat("9", 400), strings.Repeat("0", 400),
			"00", "01", "001", "000000", "0000001", "0999999", "+0", "-0", "+1", "-1", "-999999", "--1", "1-", "1+", "0x1", "0b1", "0o1", "1e1", "1.0", "1.", ".1", "1_0", "0_1", "1,0", "x", "N", "one", "-", "٣", "１", "²", "1\t", "\t1", "1\r", "1\x00", "\x001", "1\xff", "\xff", "1é",
		} {
			wantRefused(t, "what", c.line+word+c.rest)
		}
	}
}

// wantFails checks that the function of a line fails on the first desk.
func wantFails(t *testing.T, line string) {
	t.Helper()
	behind, reply, ok := impl.DeskLine(impl.FirstDesk(), line)
	wantDesk(t, line, behind, ok, impl.FirstDesk())
	wantText(t, "the reply to "+line, reply, ok, "no", true)
	wantLine(t, impl.FirstDesk(), line)
}

// A word that tells nothing is found before a function fails.
func TestLinesThatMeanNothingAndWouldFail(t *testing.T) {
	for _, line := range []string{"empty LX 0 0", "empty LX 999999 1", "empty L 0 x", "empty L x 0", "empty  0 0", "paint 9 9 x", "paint x 9 9", "paint 9 x 9", "ant 999999 0 01", "shift 9 +0", "shift 01 9", "go 1000000", "at 101 101", "draw 999999 ", "closes 0"} {
		wantRefused(t, "what", line)
	}
}

// Functions that fail: beyond limits, outside the world, and if what is asked for is not there.
func TestLinesWhoseFunctionsFail(t *testing.T) {
	for _, line := range []string{"empty L 0 1", "empty L 1 0", "empty L 10 1", "empty L 1 10", "go 3001", "back 3001", "shift 3 0", "shift 0 3", "paint 3 0 0", "paint 0 3 0", "paint 0 0 2", "ant 3 0 0", "ant 0 3 0", "ant 0 0 4", "turns 3001", "cells 3001", "visits 3001", "at 101", "draw 101"} {
		wantFails(t, line)
	}
	far := deskOf("LRRRRL:9x9:"+strings.Repeat("0", 81)+":0,0,0", "LR:3x3:000000000:1,1,0", "9N")
	for _, line := range []string{"period", "to", "closes", "area", "winding", "draw 7"} {
		behind, reply, ok := impl.DeskLine(far, line)
		wantDesk(t, line, behind, ok, far)
		wantText(t, "the reply to "+line, reply, ok, "no", true)
		wantLine(t, far, line)
	}
	// A program with U has no winding, and too many steps are not drawn.
	turning := deskOf("L:1x1:0:0,0,0", "L:1x1:0:0,0,0", "9U9U")
	for line, want := range map[string]string{"winding": "no", "closes": "1", "area": "0", "draw 22": strings.TrimSuffix(strings.Repeat("#/", 10), "/"), "draw 23": "no"} {
		if _, reply := wantLine(t, turning, line); reply != want {
			t.Errorf("the reply to %s is %q", line, reply)
		}
	}
}

// What is behind a line that is not executed is as before it, and later lines go on with it.
func TestNothingChangesByLinesThatFail(t *testing.T) {
	const far = "LR:3x3:000010000:0,1,3"
	wantReplies(t,
		"go 1", far, "go 3001", "no", "show", far, "empty L 0 1", "no", "show", far, "paint 3 0 1", "no", "show", far, "ant 0 0 4", "no", "show", far, "shift 0 3", "no", "show", far,
		"world LR:3x3:000000000:1,1", "what", "show", far, "program 1R2", "what", "at 1", "0,-1,1", "keep now", "what", "to", "65", "swap ", "what", "show", far, "turn 1", "what", "show", far, "closes", "4")
	numbers, ok := impl.FailedLines("go 1\ngo 3001\nshow\nhide\n\nkeep\nto\nempty L 0 1\nempty LX 1 1\nto\n")
	wantList(t, "FailedLines", numbers, ok, 2, 4, 5, 8, 9)
	numbers, ok = impl.FailedLines("go 1\nkeep\nturns 0\nto\n")
	wantList(t, "FailedLines of a script without such lines", numbers, ok)
}

// Other first words, also those that begin or end like a known one.
func TestUnknownFirstWords(t *testing.T) {
	for name, form := range lineForms {
		rest := strings.Repeat(" 1", len(form))
		others := []string{strings.ToUpper(name), strings.ToUpper(name[:1]) + name[1:], name + "s", "s" + name, name[1:], name[:len(name)-1], name + ".", name + "\t", name + "\r", name + "\x00", "\x00" + name, name + ",", name + ":", name + rest[min(1, len(rest)):], "\xff" + name, "\ufeff" + name}
		for _, other := range others {
			if _, is := lineForms[other]; !is {
				wantRefused(t, "what", other+rest)
			}
		}
		if len(form) > 0 {
			wantRefused(t, "what", strings.TrimSpace(rest)+" "+name)
			wantRefused(t, "what", name+"\t"+strings.TrimSpace(rest))
		}
	}
	for _, line := range []string{"fly", "step", "what", "no", "quit", "help", "0", "1", "-", "W", "N", "show show", "show\tshow", "LR:3x3:000000000:1,1,0", "1R", "LR", "world:LR", "go1", "go+1", "go,1", "\xff\xfe", "é", "go\u00a01", "\x00", "\r", "\t", "\v", "#", "// show", "`show`"} {
		wantRefused(t, "what", line)
	}
}

// Words that are no rules, programs or WorldTexts.
func TestWordsThatTellNothing(t *testing.T) {
	for _, rule := range invalidRules() {
		if len(rule) < 1000 && !strings.Contains(rule, " ") {
			wantRefused(t, "what", "empty "+rule+" 1 1")
		}
	}
	for _, program := range invalidPrograms() {
		if len(program) < 1000 && !strings.ContainsAny(program, " \n") {
			wantRefused(t, "what", "program "+program)
		}
	}
	for _, text := range []string{
		"LR", "LR:1x1:0", "LR:1x1:0:0,0", "LR:1x1:0:0,0,0,0", "LR:1x1:0:0,0,0:", ":LR:1x1:0:0,0,0", "LR:1x1:0:0,0,4", "LR:1x1:0:1,0,0", "LR:1x1:0:0,1,0", "LR:1x1:2:0,0,0", "LR:1x1:00:0,0,0", "LR:1x2:0:0,0,0", "LX:1x1:0:0,0,0", ":1x1:0:0,0,0", "LR:0x0::0,0,0", "LR:10x1:0000000000:0,0,0",
		"LR:1x1:0:-0,0,0", "LR:1x1:0:00,0,0", "LR:01x1:0:0,0,0", "lr:1x1:0:0,0,0", "LR:1X1:0:0,0,0", "LR:1x1:0:0.0.0", "LR:1x1:0:0,0,0\t", "LR:1x1:0:0,0,0\r", "1R", "0", "LR:1x1:\xff:0,0,0", "LR:2x1:2.1.1,4.1.0",
	} {
		wantRefused(t, "what", "world "+text)
	}
}

// A script of several kept worlds and programs goes on from line to line.
func TestLinesGoOnFromLineToLine(t *testing.T) {
	wantReplies(t,
		"keep", "LR:3x3:000000000:1,1,0", "go 3", "LR:3x3:000110100:1,2,1", "to", "63", "swap", "LR:3x3:000000000:1,1,0", "to", "3", "period", "66", "go 3", "LR:3x3:000110100:1,2,1", "to", "0",
		"world N:3x1:000:0,0,1", "N:3x1:000:0,0,1", "keep", "N:3x1:000:0,0,1", "go 1", "N:3x1:000:1,0,1", "to", "2", "period", "3", "around", "3", "go 3000", "N:3x1:000:1,0,1", "back 2999", "N:3x1:000:2,0,1", "visits 4", "1,1,2",
		"swap", "N:3x1:000:0,0,1", "to", "2", "mirror", "N:3x1:000:2,0,3", "turn", "N:1x3:000:0,2,0", "reverse", "N:1x3:000:0,0,2", "to", "no", "at 1", "0,-1,1", "draw 4", "##/##", "area", "2")
}

// Scripts of MaxLines lines and of MaxScript bytes are scripts, and those of one more are none.
func TestLimitsOfScriptsAreMetExactly(t *testing.T) {
	most := slices.Repeat([]string{"go 1"}, 50)
	if got := wantScript(t, most...); len(got) != 50 {
		t.Errorf("there are %d replies", len(got))
	}
	wantNoScript(t, scriptOf(append(most, "go 1")))
	wantScript(t, slices.Repeat([]string{""}, 50)...)
	wantNoScript(t, strings.Repeat("\n", 51))
	wantNoScript(t, strings.Repeat("\n", 50)+"go 1")

	// Fifty lines of together MaxScript bytes: the last one is filled up.
	full := append(slices.Repeat([]string{"turn"}, 49), strings.Repeat("x", 2999-49*5))
	if script := scriptOf(full); len(script) != 3000 {
		t.Fatalf("the script has %d bytes", len(script))
	}
	if got := wantScript(t, full...); got[48] != "LR:3x3:000000000:1,1,1" || got[49] != "what" {
		t.Errorf("the last replies are %q", got[48:])
	}
	wantNoScript(t, "x"+scriptOf(full))
	full[49] += "x"
	wantNoScript(t, scriptOf(full))

	// One line alone.
	wantScript(t, strings.Repeat(" ", 2999))
	wantNoScript(t, strings.Repeat(" ", 3000)+"\n")
	wantNoScript(t, strings.Repeat(" ", 3000))
	wantScript(t, "show "+strings.Repeat("1", 2994))
	wantNoScript(t, "show "+strings.Repeat("1", 2995)+"\n")

	// Many worlds that are no small ones.
	big := "world LRNULR:9x9:" + strings.Repeat("012345", 13) + "012:8,8,3"
	wantScript(t, slices.Repeat([]string{big}, 2999/(len(big)+1))...)
}

// A line of a desk has at most MaxScript bytes, one more than in a script.
func TestLimitsOfLinesAreMetExactly(t *testing.T) {
	for _, line := range []string{strings.Repeat("x", 3000), strings.Repeat(" ", 3000), "show" + strings.Repeat(" ", 2996), "go " + strings.Repeat("0", 2996) + "1", "program " + strings.Repeat("1R", 1496), "\xff" + strings.Repeat("\x00", 2999)} {
		if len(line) != 3000 {
			t.Fatalf("the line has %d bytes", len(line))
		}
		wantRefused(t, "what", line)
		wantNoLine(t, impl.FirstDesk(), line+" ")
	}
	// The longest WorldText.
	big := "world LRNULR:9x9:" + strings.Repeat("5", 81) + ":8,8,3"
	wantLine(t, impl.FirstDesk(), big)
}

// A line that no newline ends makes a text no script, also behind lines that have one.
func TestLastLinesWithoutNewline(t *testing.T) {
	for _, text := range []string{"show", "go 1", " ", "x", "show\ngo 1", "show\n ", "\nx", "show\n\nshow", "go 1\ngo 1\ngo", "show\r", "show\n\r", "show\n\x00", "show\x00", "\r\nshow"} {
		wantNoScript(t, text)
		wantScript(t, strings.Split(text, "\n")...)
	}
}

// A newline is the byte 10 alone: other ends of lines belong to their lines.
func TestOtherEndsOfLines(t *testing.T) {
	wantReplies(t, "show\r", "what", "show\v", "what", "show\f", "what", "show\u0085", "what", "show\u2028", "what", "show\x00", "what", "show", "LR:3x3:000000000:1,1,0")
	wantNoScript(t, "show\r\nshow\r")
}

func TestResultsOfConsoleAreNewlyAllocated(t *testing.T) {
	script := "go 1\nfly\nturns 3\ngo 3001\n"
	replies, _ := impl.RunScript(script)
	failed, _ := impl.FailedLines(script)
	for i := range replies {
		replies[i] = "spoilt"
	}
	_ = append(replies[:1], "spoilt")
	spoil(failed)
	again, ok := impl.RunScript(script)
	if want := []string{"LR:3x3:000010000:0,1,3", "what", "LLL", "no"}; !slices.Equal(again, want) || !ok {
		t.Errorf("RunScript again is %q, %v", again, ok)
	}
	numbers, ok := impl.FailedLines(script)
	wantList(t, "FailedLines again", numbers, ok, 2, 4)
}
