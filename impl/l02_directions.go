package impl

import "sort"

// Limits of directions and places.
const (
	Directions = 24
	UnitLength = 1000
	MaxPlace   = 10000
	MaxRadius  = 1000
)

const (
	// quarter is the number of directions of a quarter turn.
	quarter = Directions / 4
	// maxTurn is the greatest number of directions of one turn, either way.
	maxTurn = 1000
	// maxRoot is the root of the greatest number whose root is told.
	maxRoot = 1000000
)

// Point is a place, in decimetres.
type Point struct {
	X int64
	Y int64
}

// Fraction is a number in lowest terms; Den is at least 1.
type Fraction struct {
	Num int64
	Den int64
}

// firstVectors has the vectors of the first quarter; the others are these, turned.
var firstVectors = [quarter]Point{{1000, 0}, {966, 259}, {866, 500}, {707, 707}, {500, 866}, {259, 966}}

// heading is a number that may be a direction.
type heading int64

func (h heading) valid() bool { return h >= 0 && h < Directions }

// turned returns the direction after a turn; a remainder in Go may be negative, a direction is not.
func (h heading) turned(by int64) heading {
	return ((h+heading(by))%Directions + Directions) % Directions
}

func (h heading) vector() Point {
	v := firstVectors[h%quarter]
	for range h / quarter {
		v = Point{-v.Y, v.X}
	}
	return v
}

// offset rounds X and Y towards 0 before they are added to a point: rounding a sum would round negative places the other way.
func (h heading) offset(radius int64) Point {
	v := h.vector()
	return Point{v.X * radius / UnitLength, v.Y * radius / UnitLength}
}

func (p Point) plus(q Point) Point { return Point{p.X + q.X, p.Y + q.Y} }

func (p Point) minus(q Point) Point { return Point{p.X - q.X, p.Y - q.Y} }

func (p Point) scalar(q Point) int64 { return p.X*q.X + p.Y*q.Y }

// VectorOf returns the vector of a direction.
func VectorOf(d int64) (Point, int64) {
	if !heading(d).valid() {
		return Point{}, ErrRange
	}
	return heading(d).vector(), OK
}

// PlaceAt returns the place at a radius in a direction.
func PlaceAt(from Point, d, radius int64) (Point, int64) {
	if !ValidPlace(from) {
		return Point{}, ErrInvalid
	}
	if !heading(d).valid() || radius < 0 || radius > MaxRadius {
		return Point{}, ErrRange
	}
	p := from.plus(heading(d).offset(radius))
	if !ValidPlace(p) {
		return Point{}, ErrFull
	}
	return p, OK
}

// TurnBy returns the direction after a turn.
func TurnBy(d, by int64) (int64, int64) {
	if !heading(d).valid() || !validTurn(by) {
		return 0, ErrRange
	}
	return int64(heading(d).turned(by)), OK
}

func validTurn(by int64) bool { return by >= -maxTurn && by <= maxTurn }

// TurnBetween returns the shortest turn from a direction to another one.
func TurnBetween(from, to int64) (int64, int64) {
	if !heading(from).valid() || !heading(to).valid() {
		return 0, ErrRange
	}
	by := int64(heading(to).turned(-from))
	// A half turn goes forwards, as by is -11 to 12.
	if by > Directions/2 {
		by -= Directions
	}
	return by, OK
}

// SquareBetween returns the square of the distance of two places.
func SquareBetween(a, b Point) (int64, int64) {
	if !ValidPlace(a) || !ValidPlace(b) {
		return 0, ErrInvalid
	}
	way := b.minus(a)
	return way.scalar(way), OK
}

// RadiusBetween returns the distance of two places, rounded up.
func RadiusBetween(a, b Point) (int64, int64) {
	square, code := SquareBetween(a, b)
	if code != OK {
		return 0, code
	}
	return RootUp(square)
}

// DirectionTo returns the direction that points to a place best.
func DirectionTo(from, to Point) (int64, int64) {
	if !ValidPlace(from) || !ValidPlace(to) {
		return 0, ErrInvalid
	}
	if from == to {
		return 0, ErrState
	}
	way := to.minus(from)
	best := heading(0)
	for d := heading(1); d < Directions; d++ {
		if d.vector().scalar(way) > best.vector().scalar(way) {
			best = d
		}
	}
	return int64(best), OK
}

// WayOf returns the directions of a turn, one after the other.
func WayOf(from, by int64) ([]int64, int64) {
	if !heading(from).valid() || !validTurn(by) {
		return nil, ErrRange
	}
	step := int64(1)
	if by < 0 {
		step = -1
	}
	way := []int64{from}
	at := heading(from)
	for range by * step {
		at = at.turned(step)
		way = append(way, int64(at))
	}
	return way, OK
}

// ValidPlace reports whether p is a place.
func ValidPlace(p Point) bool {
	return p.X >= -MaxPlace && p.X <= MaxPlace && p.Y >= -MaxPlace && p.Y <= MaxPlace
}

// RootUp returns the square root of a number, rounded up.
func RootUp(n int64) (int64, int64) {
	if n < 0 || n > maxRoot*maxRoot {
		return 0, ErrRange
	}
	// Integers only: a root of floats may be off by one beside a square.
	root := sort.Search(maxRoot, func(r int) bool { return int64(r)*int64(r) >= n })
	return int64(root), OK
}
