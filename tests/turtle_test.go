package tests

import (
	"strconv"
	"strings"
	"testing"

	"loop.example/g01276/impl"
)

func TestExampleOfTurtles(t *testing.T) {
	s, ok := impl.SpiralProgram(3, nil)
	wantText(t, "SpiralProgram of 3", s, ok, "1R2R3R", true)
	wantPlace(t, s, 1, [3]int{2, 2, 3}, true)
	n, ok := impl.ClosesAfter(s)
	wantNumber(t, "ClosesAfter", n, ok, 4, true)
	n, ok = impl.LengthOf(s, 4)
	wantNumber(t, "LengthOf", n, ok, 24, true)
	n, ok = impl.WindingOf(s)
	wantNumber(t, "WindingOf", n, ok, 3, true)
	n, ok = impl.TwiceArea("1R1R1R1R")
	wantNumber(t, "TwiceArea", n, ok, 2, true)
	drawing, ok := impl.TurtleDraws("1R1R1R1R", 1)
	wantText(t, "TurtleDraws", drawing, ok, "##/##", true)
}

func TestLimitsOfTurtlesAreConstants(t *testing.T) {
	if impl.MaxParts != 9 || impl.MaxRepeats != 100 || impl.MaxPoints != 400 {
		t.Error(impl.MaxParts, impl.MaxRepeats, impl.MaxPoints)
	}
}

func TestIsProgram(t *testing.T) {
	for _, program := range append(samplePrograms(), "0L", "9U", "0N0N0N0N0N0N0N0N0N", "9R8L7N6U5R4L3N2U1R") {
		if !impl.IsProgram(program) {
			t.Errorf("%s is no program", program)
		}
	}
	for _, program := range invalidPrograms() {
		if impl.IsProgram(program) {
			t.Errorf("%q is a program", program[:min(len(program), 100)])
		}
	}
}

func TestPlaceAfter(t *testing.T) {
	for _, c := range []struct {
		program string
		places  [][3]int
	}{
		{"1N", [][3]int{{0, 0, 0}, {0, -1, 0}, {0, -2, 0}, {0, -3, 0}}},
		{"2R", [][3]int{{0, 0, 0}, {0, -2, 1}, {2, -2, 2}, {2, 0, 3}, {0, 0, 0}, {0, -2, 1}}},
		{"3L", [][3]int{{0, 0, 0}, {0, -3, 3}, {-3, -3, 2}, {-3, 0, 1}, {0, 0, 0}, {0, -3, 3}}},
		{"4U", [][3]int{{0, 0, 0}, {0, -4, 2}, {0, 0, 0}, {0, -4, 2}}},
		{"0R", [][3]int{{0, 0, 0}, {0, 0, 1}, {0, 0, 2}, {0, 0, 3}, {0, 0, 0}}},
		{"1R2R3R", [][3]int{{0, 0, 0}, {2, 2, 3}, {4, 0, 2}, {2, -2, 1}, {0, 0, 0}}},
		{"1L2N3R", [][3]int{{0, 0, 0}, {-5, -1, 0}, {-10, -2, 0}}},
		{"9U0L9N", [][3]int{{0, 0, 0}, {9, -9, 1}, {18, 0, 2}, {9, 9, 3}, {0, 0, 0}}},
		{"0U1N", [][3]int{{0, 0, 0}, {0, 1, 2}, {0, 0, 0}}},
	} {
		for repeats, want := range c.places {
			wantPlace(t, c.program, repeats, want, true)
		}
	}
	wantPlace(t, "9N9N9N9N9N9N9N9N9N", 100, [3]int{0, -8100, 0}, true)
	wantPlace(t, "0R9N0L", 100, [3]int{900, 0, 0}, true)
}

func TestClosesAfter(t *testing.T) {
	for want, programs := range closingPrograms() {
		for _, program := range programs {
			n, ok := impl.ClosesAfter(program)
			wantNumber(t, "ClosesAfter of "+program, n, ok, want, want > 0)
		}
	}
}

func TestQuartersOf(t *testing.T) {
	for program, want := range map[string]int{
		"0L": -1, "0R": 1, "0N": 0, "0U": 2, "9L": -1, "9R": 1, "9N": 0, "9U": 2, "1L1R": 0, "1R2R3R": 3, "1R1R1R1R": 4, "1L1L1L": -3, "1U1U": 4, "1U1L": 1,
		"1L1R1N1U": 2, "1L1L1L1L1L1L1L1L1L": -9, "1R1R1R1R1R1R1R1R1R": 9, "1U1U1U1U1U1U1U1U1U": 18, "0N0N0N0N0N0N0N0N0N": 0,
	} {
		n, ok := impl.QuartersOf(program)
		wantNumber(t, "QuartersOf "+program, n, ok, want, true)
	}
}

func TestLengthOf(t *testing.T) {
	for _, c := range []struct {
		program       string
		repeats, want int
	}{
		{"1R2R3R", 0, 0}, {"1R2R3R", 1, 6}, {"1R2R3R", 100, 600}, {"0R", 100, 0}, {"9N", 100, 900}, {"0L5U0R", 7, 35}, {"9L9L9L9L9L9L9L9L9L", 100, 8100},
	} {
		n, ok := impl.LengthOf(c.program, c.repeats)
		wantNumber(t, "LengthOf "+c.program+" and "+strconv.Itoa(c.repeats), n, ok, c.want, true)
	}
}

func TestCornersAfterAndBoxAfter(t *testing.T) {
	for _, c := range []struct {
		program string
		repeats int
		corners [][]int
		box     []int
	}{
		{"1R2R3R", 0, [][]int{{0, 0}}, []int{0, 0, 0, 0}},
		{"1R2R3R", 1, [][]int{{0, 0}, {0, -1}, {2, -1}, {2, 2}}, []int{0, 2, -1, 2}},
		{"1R2R3R", 2, [][]int{{0, 0}, {0, -1}, {2, -1}, {2, 2}, {1, 2}, {1, 0}, {4, 0}}, []int{0, 4, -1, 2}},
		{"0R1N", 2, [][]int{{0, 0}, {0, 0}, {1, 0}, {1, 0}, {1, 1}}, []int{0, 1, 0, 1}},
		{"9U", 2, [][]int{{0, 0}, {0, -9}, {0, 0}}, []int{0, 0, -9, 0}},
		{"0L", 3, [][]int{{0, 0}, {0, 0}, {0, 0}, {0, 0}}, []int{0, 0, 0, 0}},
		{"2L3N4U", 1, [][]int{{0, 0}, {0, -2}, {-3, -2}, {-7, -2}}, []int{-7, 0, -2, 0}},
		{"0U9L5N", 1, [][]int{{0, 0}, {0, 0}, {0, 9}, {5, 9}}, []int{0, 5, 0, 9}},
	} {
		what := " of " + c.program + " and " + strconv.Itoa(c.repeats)
		rows, ok := impl.CornersAfter(c.program, c.repeats)
		wantRows(t, "CornersAfter"+what, rows, ok, c.corners)
		box, ok := impl.BoxAfter(c.program, c.repeats)
		wantList(t, "BoxAfter"+what, box, ok, c.box...)
	}
}

func TestTwiceArea(t *testing.T) {
	for program, want := range map[string]int{
		"1R1R1R1R": 2, "1L1L1L1L": -2, "1R": 2, "1L": -2, "9R": 162, "9L": -162, "2R3R2R3R": 12, "2R3R": 12, "3L2L": -12,
		"1U": 0, "0U": 0, "0N": 0, "0R": 0, "1U1U": 0,
		"1R1R1R1R1R1R1R1R":   4,  // around twice
		"1R1R1R1R1R":         10, // around five times
		"1L1L1L1L1R1R1R1R":   0,  // once to each side
		"1L1L1L1L2R2R2R2R":   6,  // a small square to the left, and a greater one to the right
		"2R2R1R1R1R1R2R2R":   10, // a square within a square counts again
		"1N1N1R1N1N1R":       18, // sides of several parts
		"1R1L1R1R2R2R":       6,  // a stair
		"1R2R3R":             16,
		"9R9R9R9R9R9R9R9R9R": 1458, // the most parts, around nine times
		"9L9L9L9L9L9L9L9L9L": -1458,
	} {
		n, ok := impl.TwiceArea(program)
		wantNumber(t, "TwiceArea of "+program, n, ok, want, true)
	}
	for _, program := range closingPrograms()[0] {
		n, ok := impl.TwiceArea(program)
		wantNumber(t, "TwiceArea of "+program, n, ok, 0, false)
	}
}

func TestWindingOf(t *testing.T) {
	for program, want := range map[string]int{
		"1R": 1, "1L": -1, "0R": 1, "0N": 0, "1R1R": 1, "1L1L": -1, "1R1R1R1R": 1, "1L1L1L1L": -1, "1R2R3R": 3, "1L2L3L": -3,
		"0L0R": 0, "1R1R1R1R1R": 5, "1L1L1L1L1R1R1R1R": 0, "1R1R1R1R1R1R1R1R": 2, "1R2R3R4R5R6R7R8R9R": 9, "9L8L7L6L5L4L3L2L1L": -9, "1R1R1R1R1R1R": 3,
	} {
		n, ok := impl.WindingOf(program)
		wantNumber(t, "WindingOf "+program, n, ok, want, true)
	}
	// Programs that do not close, and programs that close, with U.
	for _, program := range append(closingPrograms()[0], "0U", "1U", "1U1U", "0U0U", "1N1U", "9U9L", "1U1R", "0L0L0U", "1R1L1U1R1L1U") {
		n, ok := impl.WindingOf(program)
		wantNumber(t, "WindingOf "+program, n, ok, 0, false)
	}
}

func TestPointsOfAndCrossesOf(t *testing.T) {
	for _, c := range []struct {
		program                  string
		repeats, points, crosses int
	}{
		{"1R", 0, 1, 0}, {"1R", 1, 2, 0}, {"1R", 3, 4, 0}, {"1R", 4, 4, 1}, {"1R", 5, 4, 2}, {"1R", 7, 4, 4}, {"1R", 100, 4, 4},
		{"0R", 1, 1, 0}, {"0R", 100, 1, 0}, {"0U0U0N", 50, 1, 0}, // a part with no steps passes nothing
		{"0N1N0R0R", 1, 2, 0}, {"0N1N0R0R", 2, 2, 1},
		{"1U", 1, 2, 0}, {"1U", 2, 2, 1}, {"1U", 3, 2, 2}, {"2U", 1, 3, 0}, {"2U", 2, 3, 2}, {"2U", 3, 3, 3},
		{"9N", 1, 10, 0}, {"9N", 44, 397, 0}, {"1R2R3R", 1, 7, 0},
		{"1R1R1R1R1R", 1, 4, 2},       // the start again, and then the point above it
		{"2N1R1R1R3N", 1, 8, 1},       // a cross in the middle of a part
		{"1R1R1R1R", 2, 4, 4},         // around twice
		{"1L1L1L1L1R1R1R1R", 1, 6, 2}, // the line between both squares
	} {
		what := " " + c.program + " and " + strconv.Itoa(c.repeats)
		n, ok := impl.PointsOf(c.program, c.repeats)
		wantNumber(t, "PointsOf"+what, n, ok, c.points, true)
		n, ok = impl.CrossesOf(c.program, c.repeats)
		wantNumber(t, "CrossesOf"+what, n, ok, c.crosses, true)
	}
}

func TestSpiralProgram(t *testing.T) {
	for _, c := range []struct {
		parts int
		lefts []int
		want  string
	}{
		{1, nil, "1R"}, {1, []int{1}, "1L"}, {2, []int{}, "1R2R"}, {2, []int{1}, "1L2R"}, {2, []int{2}, "1R2L"}, {2, []int{1, 2}, "1L2L"},
		{3, nil, "1R2R3R"}, {5, []int{2, 3}, "1R2L3L4R5R"}, {9, nil, "1R2R3R4R5R6R7R8R9R"}, {9, []int{9}, "1R2R3R4R5R6R7R8R9L"},
		{9, []int{1, 5, 9}, "1L2R3R4R5L6R7R8R9L"}, {9, []int{1, 2, 3, 4, 5, 6, 7, 8, 9}, "1L2L3L4L5L6L7L8L9L"},
	} {
		s, ok := impl.SpiralProgram(c.parts, c.lefts)
		wantText(t, "SpiralProgram of "+strconv.Itoa(c.parts), s, ok, c.want, true)
	}
}

func TestBackProgramAndOtherProgram(t *testing.T) {
	for program, want := range map[string][2]string{
		"0L": {"0R", "0R"}, "1R": {"1L", "1L"}, "2N": {"2N", "2N"}, "3U": {"3U", "3U"}, "1R2L": {"2R1L", "1L2R"}, "1R2R3R": {"3L2L1L", "1L2L3L"},
		"1L2N3U4R": {"4L3U2N1R", "1R2N3U4L"}, "9R8L7N6U5R4L3N2U1R": {"1L2U3N4R5L6U7N8R9L", "9L8R7N6U5L4R3N2U1L"},
	} {
		s, ok := impl.BackProgram(program)
		wantText(t, "BackProgram of "+program, s, ok, want[0], true)
		s, ok = impl.OtherProgram(program)
		wantText(t, "OtherProgram of "+program, s, ok, want[1], true)
	}
}

func TestJoinPrograms(t *testing.T) {
	for _, c := range [][3]string{
		{"1R", "2L", "1R2L"}, {"2L", "1R", "2L1R"}, {"0N", "0N", "0N0N"}, {"1R2L3N4U", "5R6L7N8U9R", "1R2L3N4U5R6L7N8U9R"},
		{"1R", "2L3N4U5R6L7N8U9R", "1R2L3N4U5R6L7N8U9R"}, {"1R2L3N4U5R6L7N8U", "9R", "1R2L3N4U5R6L7N8U9R"},
		{"1R2L3N4U5R", "5R6L7N8U9R", ""}, {"1R2L3N4U5R6L7N8U9R", "0N", ""}, {"0N", "1R2L3N4U5R6L7N8U9R", ""}, {"1R2L3N4U5R6L7N8U9R", "1R2L3N4U5R6L7N8U9R", ""},
	} {
		s, ok := impl.JoinPrograms(c[0], c[1])
		wantText(t, "JoinPrograms of "+c[0]+" and "+c[1], s, ok, c[2], c[2] != "")
	}
}

func TestGrowProgram(t *testing.T) {
	for _, c := range []struct {
		program string
		k       int
		want    string
	}{
		{"1R2R3R", 1, "1R2R3R"}, {"1R2R3R", 2, "2R4R6R"}, {"1R2R3R", 3, "3R6R9R"}, {"1R2R3R", 4, ""}, {"1R2R3R", 9, ""},
		{"1L", 9, "9L"}, {"0U1N0L", 9, "0U9N0L"}, {"0R", 9, "0R"}, {"9U", 1, "9U"}, {"9U", 2, ""}, {"4N", 2, "8N"}, {"5N", 2, ""}, {"3N", 3, "9N"}, {"4N", 3, ""}, {"2N", 5, ""},
		{"1R5L", 2, ""}, {"5L1R", 2, ""}, {"9R8L7N6U5R4L3N2U1R", 1, "9R8L7N6U5R4L3N2U1R"}, {"4R3L2N1U0R4L3N2U1R", 2, "8R6L4N2U0R8L6N4U2R"},
	} {
		s, ok := impl.GrowProgram(c.program, c.k)
		wantText(t, "GrowProgram of "+c.program+" and "+strconv.Itoa(c.k), s, ok, c.want, c.want != "")
	}
}

func TestTurtleDraws(t *testing.T) {
	for _, c := range []struct {
		program string
		repeats int
		want    string
	}{
		{"1R1R1R1R", 0, "#"}, {"1R1R1R1R", 1, "##/##"}, {"1R1R1R1R", 7, "##/##"}, {"0R", 100, "#"}, {"2N", 1, "#/#/#"}, {"0R2N", 1, "###"}, {"0L2N", 1, "###"}, {"2U", 3, "#/#/#"},
		{"2R1R1N", 1, "##/##/#."}, {"1R1L", 2, ".##/##./#.."}, {"1L1R", 2, "##./.##/..#"}, {"2R", 4, "###/#.#/###"},
		{"0R1R1L0L", 2, "##./.##/..#"}, {"0L1L1R0R", 2, ".##/##./#.."}, {"1R2R3R", 1, "###/#.#/..#/..#"}, {"3R2R1R2L1N", 1, "###/###/#../#.."},
	} {
		s, ok := impl.TurtleDraws(c.program, c.repeats)
		wantText(t, "TurtleDraws of "+c.program+" and "+strconv.Itoa(c.repeats), s, ok, c.want, true)
	}
}

// Sides of 60 points are drawn, and those of 61 are not.
func TestSidesOf60PointsAreDrawn(t *testing.T) {
	line := strings.Repeat("#", 60)
	column := strings.TrimSuffix(strings.Repeat("#/", 60), "/")
	for _, c := range []struct{ program, want string }{
		{"1N", column}, {"0U1U", column}, {"0R1L", line}, {"0L1R", line},
	} {
		s, ok := impl.TurtleDraws(c.program, 59)
		wantText(t, "TurtleDraws of "+c.program, s, ok, c.want, true)
		s, ok = impl.TurtleDraws(c.program, 60)
		wantText(t, "TurtleDraws of "+c.program+" and one step more", s, ok, "", false)
	}
	for _, program := range []string{"1R1L", "1L1R", "0R1R1L0L", "0L1L1R0R"} {
		drawing, fine := plainDrawing(trailOf(program, 59).points)
		s, ok := impl.TurtleDraws(program, 59)
		wantText(t, "TurtleDraws of "+program, s, ok, drawing, true)
		if rows := strings.Split(s, "/"); !fine || len(rows) != 60 || len(rows[0]) != 60 {
			t.Errorf("TurtleDraws of %s has %d rows of %d points", program, len(rows), len(rows[0]))
		}
		s, ok = impl.TurtleDraws(program, 60)
		wantText(t, "TurtleDraws of "+program+" and two steps more", s, ok, "", false)
	}
	// The side alone is too long, not the number of points.
	n, ok := impl.PointsOf("1R1L", 60)
	wantNumber(t, "PointsOf 1R1L", n, ok, 121, true)
}

func TestResultsOfTurtlesAreNewlyAllocated(t *testing.T) {
	corners := [][]int{{0, 0}, {0, -1}, {2, -1}, {2, 2}}
	rows, ok := impl.CornersAfter("1R2R3R", 1)
	for i, row := range rows {
		spoil(row)
		wantRows(t, "CornersAfter behind a row that is written over", rows[i+1:], ok, corners[i+1:])
	}
	box, _ := impl.BoxAfter("1R2R3R", 1)
	spoil(box)
	rows, ok = impl.CornersAfter("1R2R3R", 1)
	wantRows(t, "CornersAfter again", rows, ok, corners)
	box, ok = impl.BoxAfter("1R2R3R", 1)
	wantList(t, "BoxAfter again", box, ok, 0, 2, -1, 2)
}
