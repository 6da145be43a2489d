package tests

import (
	"slices"
	"strconv"
	"strings"
	"testing"

	"loop.example/g01276/impl"
)

// These are tests of promise 7: programs close by their quarters.

// wantClosing checks how a program closes, and returns behind how many repeats, 0 if never.
func wantClosing(t *testing.T, program string) int {
	t.Helper()
	want, closes := plainCloses(program)
	if !closes {
		want = 0
	}
	got, ok := impl.ClosesAfter(program)
	wantNumber(t, "ClosesAfter of "+program, got, ok, want, closes)
	quarters, ok := impl.QuartersOf(program)
	wantNumber(t, "QuartersOf "+program, quarters, ok, trailOf(program, 1).rights, true)
	byQuarters := [][]int{{0, 1}, {4}, {2}, {4}}[(quarters+400)%4]
	if !slices.Contains(byQuarters, got) {
		t.Errorf("%s turns by %d quarters and closes behind %d repeats", program, quarters, got)
	}
	return got
}

func TestProgramsCloseByTheirQuarters(t *testing.T) {
	programs := slices.Concat(samplePrograms(), allPrograms(1, 9), allPrograms(2, 4), allPrograms(3, 2), allPrograms(4, 1))
	n := &numbers{last: 77}
	for range 1000 {
		programs = append(programs, n.someProgram(4, 1), n.someProgram(1+n.below(9), 9))
	}
	times := map[int]int{}
	for _, program := range programs {
		times[wantClosing(t, program)]++
	}
	for _, repeats := range []int{0, 1, 2, 4} {
		if times[repeats] < 200 {
			t.Errorf("only %d programs close behind %d repeats", times[repeats], repeats)
		}
	}
}

// A program that closes is at the start behind each so many repeats, and at no other ones; one that never closes is there at first alone.
func TestPlacesComeBackWhenProgramsClose(t *testing.T) {
	for _, program := range samplePrograms() {
		closes, ok := impl.ClosesAfter(program)
		for repeats := range 101 {
			x, y, way, fine := impl.PlaceAfter(program, repeats)
			isStart := x == 0 && y == 0 && way == 0 && fine
			if want := repeats == 0 || ok && repeats%closes == 0; isStart != want {
				t.Errorf("PlaceAfter of %s and %d is %d, %d, %d, %v, and it closes behind %d", program, repeats, x, y, way, fine, closes)
			}
		}
	}
}

func TestTurtlesGoByTheirPrograms(t *testing.T) {
	for _, program := range samplePrograms() {
		for _, repeats := range []int{0, 1, 2, 3, 4, 5, 11, 44, 99, 100} {
			what := " of " + program + " and " + strconv.Itoa(repeats)
			trail := trailOf(program, repeats)
			wantPlace(t, program, repeats, trail.number(), true)
			n, ok := impl.LengthOf(program, repeats)
			wantNumber(t, "LengthOf"+what, n, ok, len(trail.points)-1, true)
			rows, ok := impl.CornersAfter(program, repeats)
			box, fine := impl.BoxAfter(program, repeats)
			if len(trail.corners) <= 401 {
				wantRows(t, "CornersAfter"+what, rows, ok, rowsOf(trail.corners))
				wantList(t, "BoxAfter"+what, box, fine, plainBox(trail.corners)...)
			} else if len(rows) > 0 || len(box) > 0 || ok || fine {
				t.Errorf("CornersAfter%s is %v, %v, and BoxAfter is %v, %v", what, rows, ok, box, fine)
			}
		}
	}
}

func TestPointsAreThoseThatTurtlesPass(t *testing.T) {
	drawn, wide, long := 0, 0, 0
	for _, program := range samplePrograms() {
		for _, repeats := range []int{0, 1, 2, 4, 5, 17, 44, 100} {
			what := " of " + program + " and " + strconv.Itoa(repeats)
			points := trailOf(program, repeats).points
			var different, crosses int
			var drawing string
			var fine bool
			few := len(points) <= 401
			if few {
				different, crosses = plainPasses(points)
				drawing, fine = plainDrawing(points)
			}
			n, ok := impl.PointsOf(program, repeats)
			wantNumber(t, "PointsOf"+what, n, ok, different, few)
			n, ok = impl.CrossesOf(program, repeats)
			wantNumber(t, "CrossesOf"+what, n, ok, crosses, few)
			s, ok := impl.TurtleDraws(program, repeats)
			wantText(t, "TurtleDraws"+what, s, ok, drawing, fine)
			if fine && strings.Count(s, "#") != different {
				t.Errorf("TurtleDraws%s shows other points than %d: %s", what, different, s)
			}
			switch {
			case !few:
				long++
			case fine:
				drawn++
			default:
				wide++
			}
		}
	}
	if drawn < 500 || wide < 20 || long < 100 {
		t.Errorf("%d drawings, %d too wide ones, and %d of too many steps", drawn, wide, long)
	}
}

func TestAreasAndWindings(t *testing.T) {
	n := &numbers{last: 81}
	programs := append(samplePrograms(), allPrograms(3, 1)...)
	for range 500 {
		programs = append(programs, n.someProgram(1+n.below(9), 9))
	}
	rights, lefts, around := 0, 0, 0
	for _, program := range programs {
		closes, ok := plainCloses(program)
		area, winding := 0, 0
		if ok {
			trail := trailOf(program, closes)
			area, winding = plainArea(trail.points), trail.rights/4
		}
		got, fine := impl.TwiceArea(program)
		wantNumber(t, "TwiceArea of "+program, got, fine, area, ok)
		turns := ok && !strings.Contains(program, "U")
		if !turns {
			winding = 0
		}
		times, fine := impl.WindingOf(program)
		wantNumber(t, "WindingOf "+program, times, fine, winding, turns)
		if area > 0 {
			rights++
		}
		if area < 0 {
			lefts++
		}
		if winding > 1 || winding < -1 {
			around++
		}
	}
	if rights < 100 || lefts < 100 || around < 20 {
		t.Errorf("%d areas to the right, %d to the left, and %d windings", rights, lefts, around)
	}
}

// A program with L and R exchanged goes the mirrored way.
func TestOtherProgramsGoTheMirroredWay(t *testing.T) {
	for _, program := range samplePrograms() {
		other, ok := impl.OtherProgram(program)
		wantText(t, "OtherProgram of "+program, other, ok, exchangedSigns(program), true)
		for repeats := range 8 {
			want := trailOf(program, repeats).number()
			want[0], want[2] = -want[0], (4-want[2])%4
			wantPlace(t, other, repeats, want, true)
		}
		area, ok := impl.TwiceArea(program)
		mirrored, fine := impl.TwiceArea(other)
		wantNumber(t, "TwiceArea of "+other, mirrored, fine, -area, ok)
		winding, ok := impl.WindingOf(program)
		mirrored, fine = impl.WindingOf(other)
		wantNumber(t, "WindingOf "+other, mirrored, fine, -winding, ok)
		again, ok := impl.OtherProgram(other)
		wantText(t, "OtherProgram of "+other, again, ok, program, true)
	}
}

func TestBackProgramsAreToldBackwards(t *testing.T) {
	for _, program := range samplePrograms() {
		parts := partsOf(program)
		slices.Reverse(parts)
		back, ok := impl.BackProgram(program)
		wantText(t, "BackProgram of "+program, back, ok, exchangedSigns(strings.Join(parts, "")), true)
		again, ok := impl.BackProgram(back)
		wantText(t, "BackProgram of "+back, again, ok, program, true)
	}
}

// Joined programs bring the turtle from where the first one ends on.
func TestJoinedProgramsGoOn(t *testing.T) {
	joined, failed := 0, 0
	programs := samplePrograms()
	for i, s := range programs {
		u := programs[(i*37+11)%len(programs)]
		fine := len(partsOf(s))+len(partsOf(u)) <= 9
		got, ok := impl.JoinPrograms(s, u)
		if !fine {
			wantText(t, "JoinPrograms of "+s+" and "+u, got, ok, "", false)
			failed++
			continue
		}
		wantText(t, "JoinPrograms of "+s+" and "+u, got, ok, s+u, true)
		joined++
		first, second := trailOf(s, 1), trailOf(u, 1)
		second.at = first.at + second.at*first.way/-1i
		second.way = first.way * second.way / -1i
		wantPlace(t, got, 1, second.number(), true)
	}
	if joined < 50 || failed < 20 {
		t.Errorf("%d programs are joined, and %d are not", joined, failed)
	}
}

// A program that has grown brings the turtle k times as far, with the same turns.
func TestGrownProgramsGoFarther(t *testing.T) {
	grown, failed := 0, 0
	for _, program := range samplePrograms() {
		for k := 1; k <= 9; k++ {
			fine, want := true, ""
			for _, part := range partsOf(program) {
				steps := int(part[0]-'0') * k
				fine = fine && steps <= 9
				want += strconv.Itoa(steps) + part[1:]
			}
			got, ok := impl.GrowProgram(program, k)
			if !fine {
				wantText(t, "GrowProgram of "+program+" and "+strconv.Itoa(k), got, ok, "", false)
				failed++
				continue
			}
			wantText(t, "GrowProgram of "+program+" and "+strconv.Itoa(k), got, ok, want, true)
			grown++
			place := trailOf(program, 3).number()
			wantPlace(t, got, 3, [3]int{k * place[0], k * place[1], place[2]}, true)
			area, ok := impl.TwiceArea(program)
			greater, fine := impl.TwiceArea(got)
			wantNumber(t, "TwiceArea of "+got, greater, fine, k*k*area, ok)
		}
	}
	if grown < 200 || failed < 200 {
		t.Errorf("%d programs have grown, and %d have not", grown, failed)
	}
}

// Each list of parts that turn to the left is told by a spiral of its own.
func TestSpiralsOfAllLefts(t *testing.T) {
	for parts := 1; parts <= 9; parts++ {
		for set := range 1 << parts {
			var lefts []int
			var want string
			for n := 1; n <= parts; n++ {
				sign := "R"
				if set>>(n-1)&1 == 1 {
					lefts, sign = append(lefts, n), "L"
				}
				want += strconv.Itoa(n) + sign
			}
			got, ok := impl.SpiralProgram(parts, lefts)
			wantText(t, "SpiralProgram", got, ok, want, true)
			wantClosing(t, got)
		}
	}
}
