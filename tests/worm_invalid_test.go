package tests

import (
	"math"
	"regexp"
	"strconv"
	"strings"
	"testing"

	"loop.example/g01276/impl"
)

// These are tests of the promise that every function accepts all arguments, for worms: invalid ones give zero values.

func invalidWorms() []impl.Worm {
	worms := []impl.Worm{{}}
	change := func(f func(w *impl.Worm)) {
		w := wormOf("4x3:110101001101:011110000111:1,2,3")
		f(&w)
		worms = append(worms, w)
	}
	for _, lines := range []string{
		"", "1", "0", "11010100110", "1101010011010", "110101001102", "21010100110x", "11010100110 ", " 11010100110", "11010100110\x00", "11010100110\xff", "\xff10101001101",
		"11010100110/", "11010100110:", "1101010011é", "11010100110é", "1101.1001101", "-11010100110", "111111111", "1111111111111111", "LNRLNRLNRLNR", strings.Repeat("1", 100000),
	} {
		change(func(w *impl.Worm) { w.Right = lines })
		change(func(w *impl.Worm) { w.Down = lines })
	}
	// Both have too few or too many lines, though they have the right number together.
	change(func(w *impl.Worm) { w.Right, w.Down = "11010100110", "1011110000111" })
	change(func(w *impl.Worm) { w.Right, w.Down = "1101010011010", "11110000111" })
	for _, n := range []int{0, 1, 2, 3, 5, 6, 7, 12, -1, -4, 1 << 32, math.MaxInt, math.MinInt} {
		change(func(w *impl.Worm) { w.Width = n })
	}
	for _, n := range []int{0, 1, 2, 4, 5, 6, 7, 12, -1, -3, 1 << 32, math.MaxInt, math.MinInt} {
		change(func(w *impl.Worm) { w.Height = n })
	}
	for _, n := range []int{-1, 4, 5, 12, 1 << 32, -1 << 32, math.MaxInt, math.MinInt} {
		change(func(w *impl.Worm) { w.X = n })
		change(func(w *impl.Worm) { w.Way = n })
	}
	for _, n := range []int{-1, 3, 4, 12, 1 << 32, -1 << 32, math.MaxInt, math.MinInt} {
		change(func(w *impl.Worm) { w.Y = n })
	}
	for _, size := range [][2]int{{2, 3}, {3, 2}, {2, 2}, {1, 1}, {1, 3}, {7, 3}, {3, 7}, {7, 7}, {6, 7}, {7, 6}, {2, 6}, {12, 1}, {1, 12}, {0, 0}} {
		worms = append(worms, fullWorm(size[0], size[1]), bareWorm(size[0], size[1]))
	}
	lines := strings.Repeat("1", 12)
	return append(worms,
		impl.Worm{Width: -4, Height: -3, Right: lines, Down: lines},
		impl.Worm{Width: 1 << 32, Height: 1 << 32},
		impl.Worm{Width: 1 << 62, Height: 4},
		impl.Worm{Width: 3, Height: 4, Right: lines, Down: lines, X: 3},
		impl.Worm{Width: 4, Height: 3, Right: lines, Down: lines, Y: 3},
	)
}

// wrongTastes are no tastes.
func wrongTastes() []string {
	return []string{
		"", "L", "N", "R", "LN", "NL", "LR", "RN", "LLL", "NNN", "RRR", "LLN", "LNL", "NLL", "LRR", "NNR", "RLR", "LNRL", "LNRN", "LNRU", "ULNR", "LNU", "LUR", "UNR", "UUU", "LNRLNR",
		"lnr", "Lnr", "LNr", "LNR ", " LNR", "L NR", "LN R", "LNR\n", "LNR\x00", "\x00NR", "LN\xff", "\xffNR", "L,N,R", "123", "031", "LNX", "LNÉ", "LÉ", "ＬＮＲ", "L\u0345R", "LN\u2163",
		"LNQ", "LNS", "KNR", "MNR", "LMR", "LOR", strings.Repeat("LNR", 100000), strings.Repeat("L", 100000),
	}
}

// onlyWorm calls each function of a worm alone and tells, by name, whether all is zero.
func onlyWorm(w impl.Worm) map[string]bool {
	zero := map[string]bool{}
	n, ok := impl.LinesLeft(w)
	zero["LinesLeft"] = n == 0 && !ok
	tastes, n, ok := impl.LongestLife(w)
	zero["LongestLife"] = len(tastes) == 0 && n == 0 && !ok
	odd, ok := impl.OddNodes(w)
	zero["OddNodes"] = len(odd) == 0 && !ok
	n, ok = impl.PiecesLeft(w)
	zero["PiecesLeft"] = n == 0 && !ok
	text, ok := impl.WormText(w)
	zero["WormText"] = text == "" && !ok
	return zero
}

// tasteResults does so for the functions of a worm, of a taste and of a number of steps.
func tasteResults(w impl.Worm, taste string, steps int) map[string]bool {
	zero := map[string]bool{}
	v, ok := impl.EatLine(w, taste)
	zero["EatLine"] = v == impl.Worm{} && !ok
	v, ok = impl.WormAfter(w, taste, steps)
	zero["WormAfter"] = v == impl.Worm{} && !ok
	v, ok = impl.DeathOf(w, taste)
	zero["DeathOf"] = v == impl.Worm{} && !ok
	n, ok := impl.LifeOf(w, taste)
	zero["LifeOf"] = n == 0 && !ok
	track, ok := impl.TrackOfWorm(w, taste)
	zero["TrackOfWorm"] = len(track) == 0 && !ok
	meals, ok := impl.MealsOfWorm(w, taste)
	zero["MealsOfWorm"] = meals == "" && !ok
	return zero
}

// placeResults does so for the functions of a worm and of a column and a row, and for the way.
func placeResults(w impl.Worm, x, y, way int) map[string]bool {
	zero := map[string]bool{}
	n, ok := impl.LinesAt(w, x, y)
	zero["LinesAt"] = n == 0 && !ok
	v, ok := impl.ShiftWorm(w, x, y)
	zero["ShiftWorm"] = v == impl.Worm{} && !ok
	v, ok = impl.GiveBack(w, way)
	zero["GiveBack"] = v == impl.Worm{} && !ok
	return zero
}

func TestInvalidWormsGiveZeroValues(t *testing.T) {
	for _, w := range invalidWorms() {
		what := "an invalid worm of the lines " + strconv.Quote(w.Right[:min(len(w.Right), 100)])
		wantZero(t, what, onlyWorm(w))
		for _, taste := range []string{"LNR", "RNL", "", "LLL"} {
			for _, steps := range []int{0, 1, 100, -1, 101} {
				wantZero(t, what, tasteResults(w, taste, steps))
			}
		}
		for way := -1; way <= 4; way++ {
			for _, at := range [][2]int{{0, 0}, {1, 2}, {-1, 0}, {0, -1}, {w.X, w.Y}, {math.MaxInt, math.MinInt}} {
				wantZero(t, what, placeResults(w, at[0], at[1], way))
			}
		}
	}
}

func TestInvalidTastesGiveZeroValues(t *testing.T) {
	for _, w := range []impl.Worm{fullWorm(3, 3), bareWorm(6, 6), wormOf("4x3:110101001101:011110000111:1,2,3")} {
		for _, taste := range wrongTastes() {
			what := wormName(w) + " with " + strconv.Quote(taste[:min(len(taste), 100)])
			for _, steps := range []int{0, 1, 100, -1} {
				wantZero(t, what, tasteResults(w, taste, steps))
			}
		}
	}
}

func TestInvalidStepsOfWormsGiveZeroValues(t *testing.T) {
	for _, w := range sampleWorms() {
		for _, steps := range []int{-1, -100, 101, 102, 1000, 1 << 32, -1 << 32, 1 << 62, math.MaxInt, math.MinInt} {
			wantZero(t, wormName(w)+" and "+strconv.Itoa(steps), tasteResults(w, "NRL", steps), "WormAfter")
		}
	}
}

func TestInvalidPlacesAndWaysOfWormsGiveZeroValues(t *testing.T) {
	for _, w := range append(sampleWorms(), wormOf("4x3:000000000000:000000000000:1,2,3")) {
		far := []int{-1, -w.Width, -w.Height, 6, 7, 36, 1 << 32, -1 << 32, math.MaxInt, math.MinInt}
		for _, n := range append(far, w.Width, w.Width+1) {
			for _, y := range []int{0, w.Height - 1, n} {
				wantZero(t, wormName(w)+" and the column "+strconv.Itoa(n), placeResults(w, n, y, 0), "LinesAt", "ShiftWorm")
			}
		}
		for _, n := range append(far, w.Height, w.Height+1) {
			for _, x := range []int{0, w.Width - 1} {
				wantZero(t, wormName(w)+" and the row "+strconv.Itoa(n), placeResults(w, x, n, 0), "LinesAt", "ShiftWorm")
			}
		}
		for _, way := range []int{-1, -2, -4, 4, 5, 8, 1 << 32, -1 << 32, 1<<32 + 1, math.MaxInt, math.MinInt} {
			wantZero(t, wormName(w)+" and the way "+strconv.Itoa(way), placeResults(w, 0, 0, way), "GiveBack")
		}
	}
}

func TestInvalidSizesOfFreshWormsGiveZeroValues(t *testing.T) {
	for _, n := range []int{0, 1, 2, 7, 8, 9, 36, -1, -3, 1 << 32, 1<<32 + 3, 1 << 62, math.MaxInt, math.MinInt} {
		for _, other := range []int{3, 4, 6, 0, 2, 7, n} {
			got, ok := impl.FreshWorm(n, other)
			wantNoWorm(t, "FreshWorm of "+strconv.Itoa(n)+" and "+strconv.Itoa(other), got, ok)
			got, ok = impl.FreshWorm(other, n)
			wantNoWorm(t, "FreshWorm of "+strconv.Itoa(other)+" and "+strconv.Itoa(n), got, ok)
		}
	}
}

// isWormText reports whether a text is that of a worm.
func isWormText(text string) bool {
	if !regexp.MustCompile(`\A[3-6]x[3-6]:[01]+:[01]+:[0-5],[0-5],[0-3]\z`).MatchString(text) {
		return false
	}
	w := wormOf(text)
	nodes := w.Width * w.Height
	return len(w.Right) == nodes && len(w.Down) == nodes && w.X < w.Width && w.Y < w.Height
}

// wantWormRead checks that a text is read if it is that of a worm, and not otherwise.
func wantWormRead(t *testing.T, text string) bool {
	t.Helper()
	got, ok := impl.ParseWorm(text)
	is := isWormText(text)
	if is {
		wantWorm(t, "ParseWorm of "+text, got, ok, wormOf(text))
	} else {
		wantNoWorm(t, "ParseWorm of "+strconv.Quote(text[:min(len(text), 200)]), got, ok)
	}
	return is
}

func TestTextsThatAreNoWorms(t *testing.T) {
	for _, text := range []string{
		"", "3", "3x3", "3x3:", ":::", "::::", "3x3:::", "3x3:111111111", "3x3:111111111:111111111", "3x3:111111111:111111111:", "3x3:111111111:111111111:0", "3x3:111111111:111111111:0,0", "3x3:111111111:111111111:0,0,",
		"3x3:111111111:111111111:0,0,4", "3x3:111111111:111111111:3,0,0", "3x3:111111111:111111111:0,3,0", "3x3:111111111:111111111:-1,0,0", "3x3:111111111:111111111:0,0,-1", "3x3:111111111:111111111:00,0,0", "3x3:111111111:111111111:0,0,00",
		"3x3:111111111:111111111:0,0,0 ", " 3x3:111111111:111111111:0,0,0", "3x3:111111111:111111111:0,0,0\n", "3x3:111111111:111111111:0,0,0:", "3x3:111111111:111111111:0,0,0,0", "3x3:111111111:111111111:0;0,0", "3x3:111111111:111111111:0,0:0",
		"3X3:111111111:111111111:0,0,0", "3/3:111111111:111111111:0,0,0", "3x3;111111111:111111111:0,0,0", "03x3:111111111:111111111:0,0,0", "3x03:111111111:111111111:0,0,0", "+3x3:111111111:111111111:0,0,0", "3x3:11111111:1111111111:0,0,0",
		"3x3:111111112:111111111:0,0,0", "3x3:111111111:11111111x:0,0,0", "3x3:11111111:111111111:0,0,0", "3x3:111111111:11111111:0,0,0", "3x3:1111111111:111111111:0,0,0", "3x3:111111111:1111111111:0,0,0", "3x3::111111111:0,0,0", "3x3:111111111::0,0,0",
		"2x3:111111:111111:0,0,0", "3x2:111111:111111:0,0,0", "2x2:1111:1111:0,0,0", "1x1:1:1:0,0,0", "0x0:::0,0,0", "7x3:" + strings.Repeat("1", 21) + ":" + strings.Repeat("1", 21) + ":0,0,0",
		"3x7:" + strings.Repeat("1", 21) + ":" + strings.Repeat("1", 21) + ":0,0,0", "7x7:" + strings.Repeat("1", 49) + ":" + strings.Repeat("1", 49) + ":0,0,0", "3x4:111111111:111111111:0,0,0", "4x3:111111111:111111111:0,0,0",
		"3x3:111111111:111111111:0,0,\x00", "\xffx3:111111111:111111111:0,0,0", "3x3:11111111\xff:111111111:0,0,0", "LR:3x3:000000000:1,1,0", "111111111:3x3:111111111:0,0,0", "3x3:0,0,0:111111111:111111111",
		"3x3:" + strings.Repeat("1", 100000) + ":111111111:0,0,0", strings.Repeat(":", 100000), strings.Repeat("3x3:", 100000),
	} {
		if wantWormRead(t, text) {
			t.Errorf("%q is the text of a worm", text)
		}
	}
}

// Texts that differ from that of a worm by one byte are read if, and only if, they are texts of worms too.
func TestTextsOneByteFromThoseOfWorms(t *testing.T) {
	read, want := 0, 0
	for _, text := range []string{
		"3x3:110101001:011110000:1,2,3", "3x4:110101001101:011110000111:2,3,0", "4x3:110101001101:011110000111:3,2,1", wormName(fullWorm(6, 6)),
	} {
		w := wormOf(text)
		// At each place of a text the byte that is there is right, and so is each other one that tells a line, a column, a row or a way.
		want += len("3x3:::,,") + 4*w.Width*w.Height + w.Width + w.Height + 4
		read += oneByteFrom(text, func(other string) bool { return wantWormRead(t, other) })
	}
	if read != want {
		t.Errorf("%d texts are read; want %d", read, want)
	}
}

// Grids of 3 by 3 and of MaxGrid by MaxGrid, and the last node of each, are met exactly.
func TestLimitsOfWormsAreMetExactly(t *testing.T) {
	for _, size := range gridSizes() {
		w := fullWorm(size[0], size[1])
		w.X, w.Y, w.Way = w.Width-1, w.Height-1, 3
		what := wormName(w)
		wantOnly(t, what, onlyWorm(w))
		wantOnly(t, what, tasteResults(w, "RLN", 0))
		wantOnly(t, what, tasteResults(w, "RLN", 4))
		wantOnly(t, what, tasteResults(w, "RLN", 100), "WormAfter")
		wantOnly(t, what, placeResults(w, w.Width-1, w.Height-1, 3), "GiveBack")
		wantOnly(t, what, placeResults(bareWorm(w.Width, w.Height), w.Width-1, w.Height-1, 3))
	}
}

func TestArgumentsOfWormsAreNotModified(t *testing.T) {
	for _, w := range sampleWorms() {
		before := w
		before.Right, before.Down = strings.Clone(w.Right), strings.Clone(w.Down)
		onlyWorm(w)
		for _, taste := range allTastes() {
			tasteResults(w, taste, 5)
		}
		for way := range 4 {
			placeResults(w, 1, 2, way)
		}
		if w != before {
			t.Errorf("%s has become %s", wormName(before), wormName(w))
		}
	}
}

// Nothing is kept between calls: lines that a worm has eaten are there for the next one.
func TestWormsAreTheSameInEachCall(t *testing.T) {
	w := (&numbers{last: 79}).someWorm(5, 6, 9)
	for range 5 {
		for _, taste := range allTastes() {
			wantLife(t, w, taste, lifeOf(w, taste))
		}
		n, ok := impl.PiecesLeft(w)
		wantNumber(t, "PiecesLeft again", n, ok, plainPieces(w), true)
		fresh, ok := impl.FreshWorm(5, 6)
		wantWorm(t, "FreshWorm again", fresh, ok, fullWorm(5, 6))
	}
}
