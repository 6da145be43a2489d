package impl

import (
	"strconv"
	"strings"
)

const MaxColours = 6
const MaxSide = 9
const MaxSteps = 3000

type World struct {
	Rule   string
	Width  int
	Height int
	Cells  string
	X      int
	Y      int
	Way    int
}

// board is a world that is known to be valid, so that its methods need not ask again.
type board struct {
	World
}

// within reports whether n is in least..greatest.
func within(n, least, greatest int) bool { return least <= n && n <= greatest }

// isWay reports whether a number tells a way.
func isWay(way int) bool { return within(way, 0, 3) }

// isSign reports whether a byte is the sign of a turn.
func isSign(sign byte) bool {
	return sign == 'L' || sign == 'R' || sign == 'N' || sign == 'U'
}

// quarters returns by how many quarters to the right, 0..3, a sign turns.
func quarters(sign byte) int {
	switch sign {
	case 'R':
		return 1
	case 'U':
		return 2
	case 'L':
		return 3
	}
	return 0
}

// direction returns by how much a cell more along a way is farther to the right and down.
func direction(way int) (int, int) {
	switch way {
	case 0:
		return 0, -1
	case 1:
		return 1, 0
	case 2:
		return 0, 1
	}
	return -1, 0
}

// exchanged returns a text of signs with L and R exchanged.
func exchanged(signs string) string {
	other := []byte(signs)
	for i, sign := range other {
		switch sign {
		case 'L':
			other[i] = 'R'
		case 'R':
			other[i] = 'L'
		}
	}
	return string(other)
}

// backwards returns a text with its bytes in the other order.
func backwards(text string) string {
	other := make([]byte, 0, len(text))
	for i := len(text) - 1; i >= 0; i-- {
		other = append(other, text[i])
	}
	return string(other)
}

// digit returns the number that a digit tells; for other bytes it is none in 0..9.
func digit(sign byte) int { return int(sign) - '0' }

// areColours reports whether all cells are digits of colours less than so many.
func areColours(cells string, colours int) bool {
	for i := range len(cells) {
		if !within(digit(cells[i]), 0, colours-1) {
			return false
		}
	}
	return true
}

// hasCell reports whether a world has a cell.
func hasCell(w World, x int, y int) bool {
	return within(x, 0, w.Width-1) && within(y, 0, w.Height-1)
}

func isStepCount(steps int) bool { return within(steps, 0, MaxSteps) }

// colour returns the colour of a cell.
func (b board) colour(x int, y int) int { return digit(b.Cells[y*b.Width+x]) }

// sign returns the sign by which the ant turns next.
func (b board) sign() byte { return b.Rule[b.colour(b.X, b.Y)] }

// painted returns the board with another colour of a cell.
func (b board) painted(x int, y int, colour int) board {
	i := y*b.Width + x
	b.Cells = b.Cells[:i] + strconv.Itoa(colour) + b.Cells[i+1:]
	return b
}

// turned returns the board with the ant turned to the right by quarters, 0..4.
func (b board) turned(quarters int) board {
	b.Way = (b.Way + quarters) % 4
	return b
}

// moved returns the board with the ant a cell farther along its way, or a cell back for by -1.
func (b board) moved(by int) board {
	right, down := direction(b.Way)
	b.X = (b.X + by*right + b.Width) % b.Width
	b.Y = (b.Y + by*down + b.Height) % b.Height
	return b
}

// forth returns the board behind a step.
func (b board) forth() board {
	colour := b.colour(b.X, b.Y)
	next := (colour + 1) % len(b.Rule)
	return b.turned(quarters(b.sign())).painted(b.X, b.Y, next).moved(1)
}

// back returns the board before a step: the ant left its cell along the way that it has now, so that the cell is found before the turn is.
func (b board) back() board {
	b = b.moved(-1)
	colour := (b.colour(b.X, b.Y) + len(b.Rule) - 1) % len(b.Rule)
	b = b.painted(b.X, b.Y, colour)
	return b.turned(4 - quarters(b.sign()))
}

// led returns the world behind so many moves, each of which can be undone. The first world that is met again is therefore the first one of all, and whole rounds back to it are left out.
func led(w World, steps int, move func(board) board) World {
	b := board{w}
	for made := 1; made <= steps; made++ {
		b = move(b)
		if b.World == w {
			steps = made + (steps-made)%made
		}
	}
	return b.World
}

// relaidCells returns cells that are told in rows of a width in rows of another width, each laid where place tells.
func relaidCells(cells string, width int, otherWidth int, place func(x, y int) (int, int)) string {
	other := make([]byte, len(cells))
	for i := range other {
		x, y := place(i%width, i/width)
		other[y*otherWidth+x] = cells[i]
	}
	return string(other)
}

// relaid returns a world of another size with each cell and the ant laid where place tells.
func relaid(w World, width int, height int, place func(x, y int) (int, int)) World {
	w.Cells = relaidCells(w.Cells, w.Width, width, place)
	w.X, w.Y = place(w.X, w.Y)
	w.Width, w.Height = width, height
	return w
}

// IsRule reports whether a text is a rule.
func IsRule(rule string) bool {
	if !within(len(rule), 1, MaxColours) {
		return false
	}
	for i := range len(rule) {
		if !isSign(rule[i]) {
			return false
		}
	}
	return true
}

// isSize reports whether a world can have a width and a height.
func isSize(width int, height int) bool {
	return within(width, 1, MaxSide) && within(height, 1, MaxSide)
}

// IsWorld reports whether w, whose parts may be any, is a world.
func IsWorld(w World) bool {
	// The size comes before the number of cells: the product of any two numbers may overflow.
	if !IsRule(w.Rule) || !isSize(w.Width, w.Height) || len(w.Cells) != w.Width*w.Height {
		return false
	}
	return areColours(w.Cells, len(w.Rule)) && hasCell(w, w.X, w.Y) && isWay(w.Way)
}

// EmptyWorld returns the world of a rule with a width and a height, all cells 0, and the ant at 0, 0 with the way 0.
func EmptyWorld(rule string, width int, height int) (World, bool) {
	if !IsRule(rule) || !isSize(width, height) {
		return World{}, false
	}
	return World{Rule: rule, Width: width, Height: height, Cells: strings.Repeat("0", width*height)}, true
}

// StepWorld returns the world behind a step.
func StepWorld(w World) (World, bool) { return WorldAfter(w, 1) }

// WorldAfter returns the world behind so many steps.
func WorldAfter(w World, steps int) (World, bool) {
	if !IsWorld(w) || !isStepCount(steps) {
		return World{}, false
	}
	return led(w, steps, board.forth), true
}

// StepBack returns the world of which this is the world behind a step: there is just one.
func StepBack(w World) (World, bool) { return WorldBefore(w, 1) }

// WorldBefore returns the world of which this is the one behind so many steps.
func WorldBefore(w World, steps int) (World, bool) {
	if !IsWorld(w) || !isStepCount(steps) {
		return World{}, false
	}
	return led(w, steps, board.back), true
}

// ColourAt returns the colour of a cell.
func ColourAt(w World, x int, y int) (int, bool) {
	if !IsWorld(w) || !hasCell(w, x, y) {
		return 0, false
	}
	return board{w}.colour(x, y), true
}

// PaintCell returns the world with another colour of a cell, or the same one.
func PaintCell(w World, x int, y int, colour int) (World, bool) {
	if !IsWorld(w) || !hasCell(w, x, y) || !within(colour, 0, len(w.Rule)-1) {
		return World{}, false
	}
	return board{w}.painted(x, y, colour).World, true
}

// PlaceAnt returns the world with the ant in a cell, with a way.
func PlaceAnt(w World, x int, y int, way int) (World, bool) {
	if !IsWorld(w) || !hasCell(w, x, y) || !isWay(way) {
		return World{}, false
	}
	w.X, w.Y, w.Way = x, y, way
	return w, true
}

// CountColours returns how many cells have each colour of the rule.
func CountColours(w World) ([]int, bool) {
	if !IsWorld(w) {
		return nil, false
	}
	counts := make([]int, len(w.Rule))
	for i := range len(w.Cells) {
		counts[digit(w.Cells[i])]++
	}
	return counts, true
}

// ShiftWorld returns the world with all cells and the ant farther to the right and down by right, in 0..Width - 1, and down, in 0..Height - 1, around.
func ShiftWorld(w World, right int, down int) (World, bool) {
	if !IsWorld(w) || !hasCell(w, right, down) {
		return World{}, false
	}
	return relaid(w, w.Width, w.Height, func(x, y int) (int, int) {
		return (x + right) % w.Width, (y + down) % w.Height
	}), true
}

// TurnWorld returns the world turned by a quarter to the right, with the ant: the first row becomes the last column, from above.
func TurnWorld(w World) (World, bool) {
	if !IsWorld(w) {
		return World{}, false
	}
	turned := relaid(w, w.Height, w.Width, func(x, y int) (int, int) {
		return w.Height - 1 - y, x
	})
	return board{turned}.turned(1).World, true
}

// MirrorWorld returns the world with each row told backwards, and the rule in which L and R are exchanged, the ant mirrored as well.
func MirrorWorld(w World) (World, bool) {
	if !IsWorld(w) {
		return World{}, false
	}
	mirrored := relaid(w, w.Width, w.Height, func(x, y int) (int, int) {
		return w.Width - 1 - x, y
	})
	mirrored.Rule = exchanged(w.Rule)
	mirrored.Way = (4 - w.Way) % 4
	return mirrored, true
}

// BackWorld returns the world whose steps lead back: the ant has turned around and gone on by a cell, the rule is told backwards, with L and R exchanged, and each colour of a cell but 0 is told as the number of colours less it. So StepWorld of the BackWorld of the world behind a step is the BackWorld of the one before.
func BackWorld(w World) (World, bool) {
	if !IsWorld(w) {
		return World{}, false
	}
	cells := []byte(w.Cells)
	for i, cell := range cells {
		if cell != '0' {
			cells[i] = byte('0' + len(w.Rule) - digit(cell))
		}
	}
	b := board{w}.turned(2).moved(1)
	b.Rule = exchanged(backwards(w.Rule))
	b.Cells = string(cells)
	return b.World, true
}

// TurnsAfter returns the signs by which the ant turns in so many steps.
func TurnsAfter(w World, steps int) (string, bool) {
	if !IsWorld(w) || !isStepCount(steps) {
		return "", false
	}
	signs := make([]byte, 0, steps)
	b := board{w}
	for range steps {
		signs = append(signs, b.sign())
		b = b.forth()
	}
	return string(signs), true
}

// OtherRule returns the rule with L and R exchanged.
func OtherRule(rule string) (string, bool) {
	if !IsRule(rule) {
		return "", false
	}
	return exchanged(rule), true
}

// WorldText returns Rule, :, Width, x, Height, :, Cells, :, X, ,, Y, , and Way.
func WorldText(w World) (string, bool) {
	if !IsWorld(w) {
		return "", false
	}
	size := strconv.Itoa(w.Width) + "x" + strconv.Itoa(w.Height)
	ant := strconv.Itoa(w.X) + "," + strconv.Itoa(w.Y) + "," + strconv.Itoa(w.Way)
	return w.Rule + ":" + size + ":" + w.Cells + ":" + ant, true
}

// ParseWorld returns the world with a WorldText. It fails if there is none.
func ParseWorld(s string) (World, bool) {
	// All numbers of a world have one digit, so that each has its place in the text.
	parts := strings.SplitN(s, ":", 5)
	if len(parts) != 4 || len(parts[1]) != len("1x1") || len(parts[3]) != len("0,0,0") {
		return World{}, false
	}
	size, ant := parts[1], parts[3]
	w := World{
		Rule: parts[0], Width: digit(size[0]), Height: digit(size[2]), Cells: parts[2],
		X: digit(ant[0]), Y: digit(ant[2]), Way: digit(ant[4]),
	}
	// Only the text of the world that was read shows whether the signs between the numbers are right.
	if text, ok := WorldText(w); !ok || text != s {
		return World{}, false
	}
	return w, true
}
