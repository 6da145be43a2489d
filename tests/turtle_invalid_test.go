package tests

import (
	"math"
	"regexp"
	"slices"
	"strconv"
	"strings"
	"testing"

	"loop.example/g01276/impl"
)

// These are tests of the promise that every function accepts all arguments, for turtles: invalid ones give zero values.

func invalidPrograms() []string {
	return []string{
		"", "1", "R", "R1", "RR", "11", "1r", "1l", "1n", "1u", "1X", "10R", "1R2", "1RR", "1R R", " 1R", "1R ", "1R\n", "1 R", "-1R", "+1R", "1R,2R", "1R/2R",
		"/R", ":R", "aR", "1\x00", "\x00R", "\xffR", "1\xff", "\u0661R", "１R", "1\u216c", "É", "1É", "1M", "1S", "1O", "1T", "1V",
		"1R2R3R4R5R6R7R8R9R0R", "1R2R3R4R5R6R7R8R9", "1R2R3R4R5R6R7R8R9R0", "1R2R3X", "1X2R3R", "1R2X3R", "1RR23R", "1R2R3R4R5R6R7R8R9X", ".R", "1R2R3R4R5R6R7R8R9R:",
		strings.Repeat("1R", 10), strings.Repeat("0N", 11), strings.Repeat("1R", 100000), strings.Repeat("R", 100001), strings.Repeat("1", 18),
	}
}

// wrongRepeats are no numbers of repeats.
func wrongRepeats() []int {
	return []int{-1, -100, 101, 1000, 1 << 32, -1 << 32, 1 << 62, math.MaxInt, math.MinInt}
}

// programResults calls each function of a program alone and tells, by name, whether all is zero.
func programResults(s string) map[string]bool {
	zero := map[string]bool{}
	numbersOf := map[string]func(string) (int, bool){
		"ClosesAfter": impl.ClosesAfter, "QuartersOf": impl.QuartersOf, "TwiceArea": impl.TwiceArea, "WindingOf": impl.WindingOf,
	}
	for name, f := range numbersOf {
		n, ok := f(s)
		zero[name] = n == 0 && !ok
	}
	for name, f := range map[string]func(string) (string, bool){"BackProgram": impl.BackProgram, "OtherProgram": impl.OtherProgram} {
		text, ok := f(s)
		zero[name] = text == "" && !ok
	}
	return zero
}

// repeatResults does so for the functions of a program and of a number of repeats.
func repeatResults(s string, repeats int) map[string]bool {
	zero := map[string]bool{}
	x, y, way, ok := impl.PlaceAfter(s, repeats)
	zero["PlaceAfter"] = x == 0 && y == 0 && way == 0 && !ok
	for name, f := range map[string]func(string, int) (int, bool){"LengthOf": impl.LengthOf, "PointsOf": impl.PointsOf, "CrossesOf": impl.CrossesOf} {
		n, ok := f(s, repeats)
		zero[name] = n == 0 && !ok
	}
	rows, ok := impl.CornersAfter(s, repeats)
	zero["CornersAfter"] = len(rows) == 0 && !ok
	box, ok := impl.BoxAfter(s, repeats)
	zero["BoxAfter"] = len(box) == 0 && !ok
	text, ok := impl.TurtleDraws(s, repeats)
	zero["TurtleDraws"] = text == "" && !ok
	return zero
}

// wantOnly checks that those of the results are zero, and no others, that are named.
func wantOnly(t *testing.T, what string, zero map[string]bool, names ...string) {
	t.Helper()
	for name, is := range zero {
		if want := slices.Contains(names, name); is != want {
			t.Errorf("%s of %s is zero: %v", name, what, is)
		}
	}
}

func TestInvalidProgramsGiveZeroValues(t *testing.T) {
	for _, s := range invalidPrograms() {
		what := strconv.Quote(s[:min(len(s), 100)])
		wantZero(t, what, programResults(s))
		for _, repeats := range append(wrongRepeats(), 0, 1, 2, 100) {
			wantZero(t, what, repeatResults(s, repeats))
		}
		for _, k := range []int{1, 2, 9, 0, -1, 10, math.MaxInt} {
			got, ok := impl.GrowProgram(s, k)
			wantText(t, "GrowProgram of "+what, got, ok, "", false)
		}
		for _, valid := range []string{"1R", "0N", "1R2R3R4R5R6R7R8R9R", s} {
			got, ok := impl.JoinPrograms(s, valid)
			wantText(t, "JoinPrograms of "+what+" and another one", got, ok, "", false)
			got, ok = impl.JoinPrograms(valid, s)
			wantText(t, "JoinPrograms of another one and "+what, got, ok, "", false)
		}
	}
	// The halves of a program are none.
	got, ok := impl.JoinPrograms("1R2", "R3R")
	wantText(t, "JoinPrograms of halves", got, ok, "", false)
}

func TestInvalidRepeatsGiveZeroValues(t *testing.T) {
	for _, s := range samplePrograms() {
		for _, repeats := range wrongRepeats() {
			wantZero(t, s+" and "+strconv.Itoa(repeats), repeatResults(s, repeats))
		}
	}
}

func TestInvalidNumbersOfGrowthGiveZeroValues(t *testing.T) {
	for _, s := range append(samplePrograms(), "0N", "0R0R", "1R", "2L4N8U") {
		for _, k := range []int{0, -1, -9, 10, 11, 1 << 32, 1 << 61, 1 << 62, 1 << 63 / 9, math.MaxInt, math.MinInt} {
			got, ok := impl.GrowProgram(s, k)
			wantText(t, "GrowProgram of "+s+" and "+strconv.Itoa(k), got, ok, "", false)
		}
	}
}

func TestInvalidSpiralsGiveZeroValues(t *testing.T) {
	for _, parts := range []int{0, -1, -9, 10, 11, 1 << 32, 1 << 62, math.MaxInt, math.MinInt} {
		for _, lefts := range [][]int{nil, {}, {1}, {0}, {-1}, {10}, {1, 2}, {parts}} {
			got, ok := impl.SpiralProgram(parts, lefts)
			wantText(t, "SpiralProgram of "+strconv.Itoa(parts), got, ok, "", false)
		}
	}
	for parts := 1; parts <= 9; parts++ {
		lists := [][]int{
			{0}, {-1}, {parts + 1}, {10}, {1 << 32}, {math.MaxInt}, {math.MinInt}, {1, 1}, {parts, parts}, {parts, 1}, {2, 1}, {0, 1}, {1, parts + 1}, {1, math.MaxInt},
			make([]int, 100000), slices.Repeat([]int{1}, 100000),
		}
		if parts > 2 {
			lists = append(lists, []int{1, 3, 2}, []int{2, 3, 3}, []int{1, 1, 2}, []int{3, 2}, []int{3, 2, 1})
		}
		for _, lefts := range lists {
			got, ok := impl.SpiralProgram(parts, lefts)
			wantText(t, "SpiralProgram of "+strconv.Itoa(parts)+" with wrong lefts", got, ok, "", false)
		}
	}
}

// wantProgram checks that a text is a program if, and only if, it is one by its bytes.
func wantProgram(t *testing.T, s string) bool {
	t.Helper()
	want := regexp.MustCompile(`\A([0-9][LRNU]){1,9}\z`).MatchString(s)
	if got := impl.IsProgram(s); got != want {
		t.Errorf("IsProgram of %q is %v", s, got)
	}
	if _, ok := impl.QuartersOf(s); ok != want {
		t.Errorf("QuartersOf %q: %v", s, ok)
	}
	return want
}

// Texts that differ from a program by one byte are programs if, and only if, they are some by their bytes too.
func TestTextsOneByteFromPrograms(t *testing.T) {
	programs := 0
	for _, s := range []string{"1R", "9U0L", "1R2L3N4U", "9R8L7N6U5R4L3N2U1R"} {
		programs += oneByteFrom(s, func(other string) bool { return wantProgram(t, other) })
	}
	if want := (1 + 2 + 4 + 9) * (10 + 4); programs != want {
		t.Errorf("%d texts are programs; want %d", programs, want)
	}
}

func TestMaxRepeatsIsMetExactly(t *testing.T) {
	for _, s := range []string{"0N", "1R", "2L", "3U", "1R3R", "1R1R1R1R", "0R0R1L"} {
		wantOnly(t, s+" and 100", repeatResults(s, 100))
		wantPlace(t, s, 100, trailOf(s, 100).number(), true)
		wantZero(t, s+" and 101", repeatResults(s, 101))
	}
}

// The corners of at most 400 parts are told, however many steps these have.
func TestMaxPartsOfCornersAreMetExactly(t *testing.T) {
	for _, c := range []struct{ parts, most int }{{1, 100}, {2, 100}, {3, 100}, {4, 100}, {5, 80}, {6, 66}, {7, 57}, {8, 50}, {9, 44}} {
		for _, part := range []string{"0R", "9U", "9R", "1L"} {
			s := strings.Repeat(part, c.parts)
			want := rowsOf(trailOf(s, c.most).corners)
			rows, ok := impl.CornersAfter(s, c.most)
			wantRows(t, "CornersAfter of "+s, rows, ok, want)
			if len(rows) != c.parts*c.most+1 {
				t.Errorf("CornersAfter of %s are %d", s, len(rows))
			}
			box, ok := impl.BoxAfter(s, c.most)
			wantList(t, "BoxAfter of "+s, box, ok, plainBox(trailOf(s, c.most).corners)...)
			for _, repeats := range []int{c.most + 1, 100, 101} {
				if repeats > c.most {
					wantZero(t, s+" and "+strconv.Itoa(repeats), repeatResults(s, repeats), "CornersAfter", "BoxAfter")
				}
			}
		}
	}
}

// The points of at most 400 steps are told, however many parts these are.
func TestMaxPointsAreMetExactly(t *testing.T) {
	limited := []string{"PointsOf", "CrossesOf", "TurtleDraws"}
	for _, c := range []struct {
		program string
		most    int
	}{
		{"4R", 100}, {"5U", 80}, {"8U", 50}, {"1R1R1R1R", 100}, {"1R3R", 100}, {"2U3L", 80}, {"9L1U", 40}, {"5U5U", 40}, {"9U9U2L", 20}, {"0R0L5R", 80}, {"0R4U0L", 100},
		{"3U3U", 66}, {"9R9R9R9R9R9R9R9R8R", 5}, {"9U9U9U9U9U5U", 8}, {"9U9U9U9U9U9U9U9U9U", 4},
	} {
		trail := trailOf(c.program, c.most)
		different, crosses := plainPasses(trail.points)
		drawing, fine := plainDrawing(trail.points)
		what := " of " + c.program + " and " + strconv.Itoa(c.most)
		n, ok := impl.PointsOf(c.program, c.most)
		wantNumber(t, "PointsOf"+what, n, ok, different, true)
		n, ok = impl.CrossesOf(c.program, c.most)
		wantNumber(t, "CrossesOf"+what, n, ok, crosses, true)
		s, ok := impl.TurtleDraws(c.program, c.most)
		wantText(t, "TurtleDraws"+what, s, ok, drawing, fine)
		wantZero(t, c.program+" and one repeat more", repeatResults(c.program, c.most+1), limited...)
		wantZero(t, c.program+" and 100 repeats more", repeatResults(c.program, c.most+100), limited...)
	}
	// One step more than 400 is none of a program: the least number of steps beyond them is 402.
	wantOnly(t, "3R3R and 66", repeatResults("3R3R", 66))
	wantOnly(t, "3R3R and 67", repeatResults("3R3R", 67), limited...)
	// Parts with no steps count as parts, and not as steps.
	wantOnly(t, "parts with no steps", repeatResults("0R0R0R0R0R0R0R0R0R", 100), "CornersAfter", "BoxAfter")
	wantOnly(t, "one step in many parts", repeatResults("0R0R0R1U0R0R0R1U0R", 100), "CornersAfter", "BoxAfter")
	wantOnly(t, "many steps in few parts", repeatResults("9U", 45), limited...)
}

// The argument of SpiralProgram stays as it is, and what is behind it is not read.
func TestArgumentsOfTurtlesAreNotModified(t *testing.T) {
	for _, list := range [][]int{{}, {1}, {2, 4}, {1, 2, 3, 4, 5}, {4, 2}, {1, 1}, {0}, {9}} {
		room := append(slices.Clone(list), 5, 0, 77)
		lefts := room[:len(list)]
		want, fine := impl.SpiralProgram(5, slices.Clone(list))
		got, ok := impl.SpiralProgram(5, lefts)
		wantText(t, "SpiralProgram with room behind its lefts", got, ok, want, fine)
		if !slices.Equal(lefts, list) || !slices.Equal(room[len(list):], []int{5, 0, 77}) {
			t.Errorf("%v has become %v", list, room)
		}
	}
}

// Nothing is kept between calls.
func TestTurtlesAreTheSameInEachCall(t *testing.T) {
	for range 5 {
		wantPlace(t, "1R2R3R", 3, [3]int{2, -2, 1}, true)
		n, ok := impl.ClosesAfter("1R2R3R")
		wantNumber(t, "ClosesAfter again", n, ok, 4, true)
		n, ok = impl.CrossesOf("1R2R3R", 4)
		_, crosses := plainPasses(trailOf("1R2R3R", 4).points)
		wantNumber(t, "CrossesOf again", n, ok, crosses, true)
		s, ok := impl.TurtleDraws("1R2R3R", 4)
		drawing, fine := plainDrawing(trailOf("1R2R3R", 4).points)
		wantText(t, "TurtleDraws again", s, ok, drawing, fine)
		s, ok = impl.BackProgram("1R2R3R")
		wantText(t, "BackProgram again", s, ok, "3L2L1L", true)
	}
}
