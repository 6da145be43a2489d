package tests

import (
	"strconv"
	"testing"

	"loop.example/g01276/impl"
)

// These are tests of the fourth promise: balls from ends come out, and turned mazes have turned exits.

func TestBallsFromEndsComeOut(t *testing.T) {
	for _, m := range append(sampleMazes(), smallMazes()...) {
		var exits []int
		for k := range plainEnds(m) {
			what := " of " + mazeName(m) + " from " + strconv.Itoa(k)
			b, ok := impl.EntryOf(m, k)
			if b != plainEntry(m, k) || !ok {
				t.Errorf("EntryOf%s is %+v, %v", what, b, ok)
			}
			want := plainRoll(m, b)
			if !want.comesOut {
				t.Fatalf("the ball%s does not come out", what)
			}
			n, ok := impl.ExitOf(m, b)
			wantNumber(t, "ExitOf"+what, n, ok, want.exit, true)
			exits = append(exits, want.exit)
		}
		got, ok := impl.ExitTable(m)
		wantList(t, "ExitTable of "+mazeName(m), got, ok, exits...)
	}
}

func TestBallsGoAsTheDocumentTells(t *testing.T) {
	for _, m := range append(sampleMazes(), smallMazes()...) {
		for _, b := range plainBalls(m) {
			what := " of " + mazeName(m) + " and " + ballName(b)
			want := plainRoll(m, b)
			n, ok := impl.ExitOf(m, b)
			wantNumber(t, "ExitOf"+what, n, ok, want.exit, want.comesOut)
			after, ok := impl.MazeAfterBall(m, b)
			n, fine := impl.HitsOfBall(m, b)
			if want.comesOut {
				wantMaze(t, "MazeAfterBall"+what, after, ok, want.maze)
				wantNumber(t, "HitsOfBall"+what, n, fine, want.hits, true)
			} else {
				wantNoMaze(t, "MazeAfterBall"+what, after, ok)
				wantNumber(t, "HitsOfBall"+what, n, fine, 0, false)
			}
		}
	}
}

// A ball that goes on cell by cell comes out as one does that is let go.
func TestHitCellGoesOnAsBallsDo(t *testing.T) {
	for _, m := range sampleMazes() {
		for k := range plainEnds(m) {
			want := plainRoll(m, plainEntry(m, k))
			now, b, hits := m, want.balls[0], 0
			for _, next := range want.balls[1:] {
				last, ball, hit, _ := plainHit(now, b)
				if hit {
					hits++
				}
				var ok bool
				now, b, ok = impl.HitCell(now, b)
				wantMaze(t, "HitCell of "+mazeName(m), now, ok, last)
				if b != next || b != ball {
					t.Fatalf("HitCell of %s leads to %s; want %s", mazeName(m), ballName(b), ballName(next))
				}
			}
			left, ok := impl.HitsOfBall(now, b)
			wantNumber(t, "HitsOfBall in the last cell of "+mazeName(m), left, ok, want.hits-hits, true)
			if now, b, ok = impl.HitCell(now, b); ok || now != (impl.Maze{}) || b != (impl.Ball{}) {
				t.Errorf("HitCell out of %s is %+v, %+v, %v", mazeName(m), now, b, ok)
			}
		}
	}
}

// Each ball comes out of a maze whose mirrors turn, wherever it starts.
func TestAllBallsComeOutOfMazesThatTurn(t *testing.T) {
	n := &numbers{last: 77}
	for range 300 {
		m := n.someMaze(1+n.below(9), 1+n.below(9), n.below(8), true)
		for _, b := range plainBalls(m) {
			if k, ok := impl.ExitOf(m, b); !ok {
				t.Errorf("ExitOf %s and %s is %d, %v", mazeName(m), ballName(b), k, ok)
			}
		}
	}
}

// Where mirrors stay, a ball that comes in at an exit comes out at the end from which the other one came in.
func TestTracksLeadBack(t *testing.T) {
	for _, m := range append(sampleMazes(), smallMazes()...) {
		exits, ok := impl.ExitTable(m)
		if !ok {
			t.Fatalf("ExitTable of %s fails", mazeName(m))
		}
		for k, exit := range exits {
			if !m.Turns && (exit == k || exits[exit] != k) {
				t.Errorf("in %s the end %d leads to %d, and this to %d", mazeName(m), k, exit, exits[exit])
			}
		}
	}
}

// wantPicture checks that a picture of a maze has the exits, tracks, mazes behind balls and balls until it is the same of the maze, its ends being told by place.
func wantPicture(t *testing.T, name string, m impl.Maze, picture func(impl.Maze) (impl.Maze, bool), place func(k int) int) {
	t.Helper()
	v, ok := picture(m)
	what := name + " of " + mazeName(m)
	exits, one := impl.ExitTable(m)
	placed, two := impl.ExitTable(v)
	if !ok || !one || !two || len(exits) != len(placed) {
		t.Fatalf("%s is %+v, %v, with the exits %v, %v", what, v, ok, placed, two)
	}
	for k, exit := range exits {
		if placed[place(k)] != place(exit) {
			t.Errorf("in %s the end %d leads to %d; want %d", what, place(k), placed[place(k)], place(exit))
		}
		after, _ := impl.MazeAfterBall(m, plainEntry(m, k))
		want, _ := picture(after)
		got, ok := impl.MazeAfterBall(v, plainEntry(v, place(k)))
		wantMaze(t, "MazeAfterBall of "+what, got, ok, want)
		balls, fine := impl.BallsUntilSame(m, k)
		n, ok := impl.BallsUntilSame(v, place(k))
		wantNumber(t, "BallsUntilSame of "+what, n, ok, balls, fine)
	}
	z, s, _ := impl.CountMirrors(m)
	if otherZ, otherS, ok := impl.CountMirrors(v); otherZ != s || otherS != z || !ok {
		t.Errorf("%s has %d and %d mirrors, and not %d and %d", what, otherZ, otherS, s, z)
	}
	tracks, fine := impl.CountTracks(m)
	n, ok := impl.CountTracks(v)
	wantNumber(t, "CountTracks of "+what, n, ok, tracks, fine)
	longest, fine := impl.LongestTrack(m)
	n, ok = impl.LongestTrack(v)
	wantNumber(t, "LongestTrack of "+what, n, ok, longest, fine)
}

func TestTurnedMazesHaveTurnedExits(t *testing.T) {
	for _, m := range append(sampleMazes(), smallMazes()...) {
		ends := 2 * (m.Width + m.Height)
		// What is at the left is above then, so that the ends there are told first.
		wantPicture(t, "TurnMaze", m, impl.TurnMaze, func(k int) int { return (k + m.Height) % ends })
	}
}

func TestMirroredMazesHaveMirroredExits(t *testing.T) {
	for _, m := range append(sampleMazes(), smallMazes()...) {
		ends := 2 * (m.Width + m.Height)
		wantPicture(t, "MirrorMaze", m, impl.MirrorMaze, func(k int) int { return (m.Width - 1 - k + ends) % ends })
	}
}

func TestFourTurnsAndTwoMirrorsOfMazesChangeNothing(t *testing.T) {
	for _, m := range sampleMazes() {
		four, ok := m, true
		for range 4 {
			four, ok = impl.TurnMaze(four)
		}
		wantMaze(t, "TurnMaze four times", four, ok, m)
		once, _ := impl.MirrorMaze(m)
		twice, ok := impl.MirrorMaze(once)
		wantMaze(t, "MirrorMaze twice", twice, ok, m)
	}
}

func TestTracksAreThoseOfBalls(t *testing.T) {
	closed := 0
	for _, m := range append(sampleMazes(), smallMazes()...) {
		if m.Turns {
			continue
		}
		want := plainClosed(m)
		closed += want
		n, ok := impl.CountTracks(m)
		wantNumber(t, "CountTracks of "+mazeName(m), n, ok, want, true)
		longest := 0
		for k := range plainEnds(m) {
			longest = max(longest, len(plainRoll(m, plainEntry(m, k)).balls))
		}
		n, ok = impl.LongestTrack(m)
		wantNumber(t, "LongestTrack of "+mazeName(m), n, ok, longest, true)
	}
	if closed < 20 {
		t.Errorf("there are only %d closed tracks", closed)
	}
}

func TestBallsInTurnGoThroughTheMazesThatAreLeft(t *testing.T) {
	same := 0
	for i, m := range append(sampleMazes(), smallMazes()...) {
		k := i % len(plainEnds(m))
		now, balls := m, 0
		var exits []int
		for sent := 1; sent <= 600; sent++ {
			r := plainRoll(now, plainEntry(m, k))
			now = r.maze
			exits = append(exits, r.exit)
			if balls == 0 && m.Turns && now == m {
				balls = sent
			}
			// What comes behind a maze that is the same is the same again.
			if balls > 0 && sent > 2*balls {
				break
			}
		}
		if balls > 0 {
			same++
		}
		got, ok := impl.ExitsInTurn(m, k, len(exits))
		wantList(t, "ExitsInTurn of "+mazeName(m), got, ok, exits...)
		n, ok := impl.BallsUntilSame(m, k)
		wantNumber(t, "BallsUntilSame of "+mazeName(m), n, ok, balls, balls > 0)
	}
	if same < 500 {
		t.Errorf("only %d mazes are the same again", same)
	}
}
