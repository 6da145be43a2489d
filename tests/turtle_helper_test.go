package tests

import (
	"slices"
	"strconv"
	"strings"
	"testing"

	"loop.example/g01276/impl"
)

// plainTrail is what a turtle does in some repeats, found from the document's words alone. Points and ways are complex numbers: x is the real part, y the imaginary one.
type plainTrail struct {
	at, way complex128
	// points are the start and a point for each step, corners the start and the end of each part.
	points, corners []complex128
	// rights is by how many quarters to the right the turtle has turned, U being two.
	rights int
}

// trailOf lets a turtle go by a valid program.
func trailOf(program string, repeats int) plainTrail {
	trail := plainTrail{way: -1i, points: []complex128{0}, corners: []complex128{0}}
	for range repeats {
		trail.goOn(program)
	}
	return trail
}

// goOn lets the turtle go by one repeat more.
func (p *plainTrail) goOn(program string) {
	turns := map[byte]complex128{'L': -1i, 'R': 1i, 'N': 1, 'U': -1}
	rights := map[byte]int{'L': -1, 'R': 1, 'U': 2}
	for rest := program; rest != ""; rest = rest[2:] {
		for range rest[0] - '0' {
			p.at += p.way
			p.points = append(p.points, p.at)
		}
		p.way *= turns[rest[1]]
		p.rights += rights[rest[1]]
		p.corners = append(p.corners, p.at)
	}
}

// number returns x, y and the way of the turtle behind a trail.
func (p plainTrail) number() [3]int {
	return [3]int{int(real(p.at)), int(imag(p.at)), slices.Index([]complex128{-1i, 1, 1i, -1}, p.way)}
}

// closed reports whether the turtle is as at the start.
func (p plainTrail) closed() bool { return p.at == 0 && p.way == -1i }

// rowsOf returns x and y of each point.
func rowsOf(points []complex128) [][]int {
	var rows [][]int
	for _, at := range points {
		rows = append(rows, []int{int(real(at)), int(imag(at))})
	}
	return rows
}

// plainBox returns the least and the greatest x, and the least and the greatest y.
func plainBox(points []complex128) []int {
	var xs, ys []int
	for _, row := range rowsOf(points) {
		xs, ys = append(xs, row[0]), append(ys, row[1])
	}
	return []int{slices.Min(xs), slices.Max(xs), slices.Min(ys), slices.Max(ys)}
}

// plainPasses returns how many points there are, and how many of them more than once.
func plainPasses(points []complex128) (different, crosses int) {
	for i, at := range points {
		if slices.Index(points, at) < i {
			continue
		}
		different++
		if slices.Contains(points[i+1:], at) {
			crosses++
		}
	}
	return different, crosses
}

// plainDrawing returns the rows of points, each as wide as the box, or ok false if a side has more than 60 points.
func plainDrawing(points []complex128) (drawing string, ok bool) {
	box := plainBox(points)
	width, height := box[1]-box[0]+1, box[3]-box[2]+1
	if width > 60 || height > 60 {
		return "", false
	}
	var rows [][]byte
	for range height {
		rows = append(rows, []byte(strings.Repeat(".", width)))
	}
	for _, row := range rowsOf(points) {
		rows[row[1]-box[2]][row[0]-box[0]] = '#'
	}
	var texts []string
	for _, row := range rows {
		texts = append(texts, string(row))
	}
	return strings.Join(texts, "/"), true
}

// plainCloses returns the least of 1..100 repeats behind which a program closes.
func plainCloses(program string) (repeats int, ok bool) {
	trail := trailOf(program, 0)
	for repeats = 1; repeats <= 100; repeats++ {
		trail.goOn(program)
		if trail.closed() {
			return repeats, true
		}
	}
	return 0, false
}

// plainArea returns twice the number of squares within a closed trail, each counted as often as the trail goes around it to the right: as often as the trail passes down, and not up, at its right.
func plainArea(points []complex128) int {
	left := plainBox(points)[0]
	area := 0
	rows := rowsOf(points)
	for i, to := range rows[1:] {
		area += 2 * (to[1] - rows[i][1]) * (to[0] - left)
	}
	return area
}

// partsOf returns the parts of a program as texts.
func partsOf(program string) []string {
	var parts []string
	for ; program != ""; program = program[2:] {
		parts = append(parts, program[:2])
	}
	return parts
}

// allPrograms returns all programs of so many parts of at most so many steps each.
func allPrograms(parts, most int) []string {
	programs := []string{""}
	for range parts {
		var longer []string
		for _, program := range programs {
			for steps := range most + 1 {
				for _, sign := range []string{"L", "R", "N", "U"} {
					longer = append(longer, program+strconv.Itoa(steps)+sign)
				}
			}
		}
		programs = longer
	}
	return programs
}

// someProgram returns a program of so many parts of at most so many steps each.
func (n *numbers) someProgram(parts, most int) string {
	var program string
	for range parts {
		program += strconv.Itoa(n.below(most+1)) + n.someRule(1)
	}
	return program
}

// closingPrograms returns programs that close behind 1, 2 and 4 repeats and some that never do, by how many these are, 0 if never.
func closingPrograms() map[int][]string {
	return map[int][]string{
		1: {"0N", "0N0N", "1U1U", "9U9U", "1R1R1R1R", "1L1L1L1L", "2R3R2R3R", "0L0R", "0L0L0U", "1N1U2U", "1R1L1U1R1L1U", "2R2R1R1R1R1R2R2R", "1L1L1L1L1R1R1R1R", "0U1R1R1R1U0R"},
		2: {"0U", "1U", "9U", "1R1R", "2L1L", "3R5R", "1N1U", "1R2L1U", "0L0L", "9R9R9N", "1U1R1R1R1R", "1L1L1L1R9R9R1R1R"},
		4: {"0L", "0R", "1L", "1R", "9R", "9L", "1R2R3R", "1L2L3L", "1R2R3R4R5R", "1U1R", "1N2L", "1R1R1R", "1R2R3R4R5R6R7R8R9R", "9L8L7L6L5L4L3L2L1L", "9U9L"},
		0: {"1N", "9N", "1L1R", "1R1L", "1U2U", "0N1N", "1R2R1R1R", "1R1R1R2R", "0L1R", "0U1U", "9N9N9N9N9N9N9N9N9N", "1L1R1L1R1L1R1L1R9N"},
	}
}

// samplePrograms returns programs of all numbers of parts, with few, many and no steps, and those that close.
func samplePrograms() []string {
	n := &numbers{last: 71}
	programs := allPrograms(1, 9)
	for parts := 2; parts <= impl.MaxParts; parts++ {
		for _, most := range []int{0, 1, 2, 9, 9} {
			programs = append(programs, n.someProgram(parts, most), n.someProgram(parts, most))
		}
	}
	for _, repeats := range []int{1, 2, 4, 0} {
		programs = append(programs, closingPrograms()[repeats]...)
	}
	return programs
}

// wantText checks a text and whether the call succeeded.
func wantText(t *testing.T, call string, got string, ok bool, want string, fine bool) {
	t.Helper()
	if got != want || ok != fine {
		t.Errorf("%s is %q, %v; want %q, %v", call, got, ok, want, fine)
	}
}

// wantPlace checks PlaceAfter.
func wantPlace(t *testing.T, program string, repeats int, want [3]int, fine bool) {
	t.Helper()
	x, y, way, ok := impl.PlaceAfter(program, repeats)
	if got := [3]int{x, y, way}; got != want || ok != fine {
		t.Errorf("PlaceAfter of %s and %d is %v, %v; want %v, %v", program, repeats, got, ok, want, fine)
	}
}
