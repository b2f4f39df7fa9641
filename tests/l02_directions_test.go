package tests

import (
	"math"
	"math/big"
	"slices"
	"strconv"
	"testing"

	"loop.example/g00932/impl"
)

// vectors is written out, so that it does not depend on how the program turns vectors.
var vectors = [24]impl.Point{
	{X: 1000, Y: 0}, {X: 966, Y: 259}, {X: 866, Y: 500}, {X: 707, Y: 707}, {X: 500, Y: 866}, {X: 259, Y: 966},
	{X: 0, Y: 1000}, {X: -259, Y: 966}, {X: -500, Y: 866}, {X: -707, Y: 707}, {X: -866, Y: 500}, {X: -966, Y: 259},
	{X: -1000, Y: 0}, {X: -966, Y: -259}, {X: -866, Y: -500}, {X: -707, Y: -707}, {X: -500, Y: -866}, {X: -259, Y: -966},
	{X: 0, Y: -1000}, {X: 259, Y: -966}, {X: 500, Y: -866}, {X: 707, Y: -707}, {X: 866, Y: -500}, {X: 966, Y: -259},
}

// somePoints has places, points just outside, and points at which a careless check would overflow.
var somePoints = []impl.Point{
	{}, {X: 1}, {Y: -1}, {X: 10000, Y: 10000}, {X: -10000, Y: -10000}, {X: 10000, Y: -10000}, {X: -3, Y: 4}, {X: 9999, Y: -9999},
	{X: 10001}, {X: -10001}, {Y: 10001}, {Y: -10001}, {X: 10001, Y: 10001}, {X: 20000},
	{X: math.MaxInt64}, {X: math.MinInt64}, {Y: math.MaxInt64}, {Y: math.MinInt64}, {X: math.MinInt64, Y: math.MaxInt64},
}

func isPlace(p impl.Point) bool { return within(p.X, -10000, 10000) && within(p.Y, -10000, 10000) }

func isDirection(d int64) bool { return within(d, 0, 23) }

func code[T any](_ T, c int64) int64 { return c }

func TestDirectionConstants(t *testing.T) {
	same(t, "Directions", impl.Directions, 24)
	same(t, "UnitLength", impl.UnitLength, 1000)
	same(t, "MaxPlace", impl.MaxPlace, 10000)
	same(t, "MaxRadius", impl.MaxRadius, 1000)
}

func TestValidPlace(t *testing.T) {
	for _, x := range edges {
		for _, y := range edges {
			p := impl.Point{X: x, Y: y}
			same(t, "place", impl.ValidPlace(p), isPlace(p))
		}
	}
}

func TestVectorOf(t *testing.T) {
	for d, want := range vectors {
		got, c := impl.VectorOf(int64(d))
		same(t, "vector", got, want)
		same(t, "code", c, impl.OK)
	}
	for _, d := range edges {
		if !isDirection(d) {
			got, c := impl.VectorOf(d)
			same(t, "vector of no direction", got, impl.Point{})
			same(t, "code", c, impl.ErrRange)
		}
	}
}

// offset rounds magnitudes down and gives the sign back, which is rounding towards 0.
func offset(v, radius int64) int64 {
	n := magnitude(v) * radius / 1000
	if v < 0 {
		return -n
	}
	return n
}

func TestPlaceAtAllDirections(t *testing.T) {
	for _, from := range []impl.Point{{}, {X: -1, Y: -1}, {X: 1, Y: 1}, {X: -5000, Y: 7000}} {
		for d, v := range vectors {
			for r := range int64(1001) {
				got, c := impl.PlaceAt(from, int64(d), r)
				same(t, "place", got, impl.Point{X: from.X + offset(v.X, r), Y: from.Y + offset(v.Y, r)})
				same(t, "code", c, impl.OK)
			}
		}
	}
}

func TestPlaceAtRounding(t *testing.T) {
	cases := []struct {
		from      impl.Point
		d, radius int64
		want      impl.Point
	}{
		{impl.Point{}, 2, 300, impl.Point{X: 259, Y: 150}},
		{impl.Point{X: -1}, 1, 1, impl.Point{X: -1}},
		{impl.Point{}, 13, 1, impl.Point{}},
		{impl.Point{}, 13, 10, impl.Point{X: -9, Y: -2}},
		{impl.Point{X: 5, Y: 5}, 13, 10, impl.Point{X: -4, Y: 3}},
		{impl.Point{X: -5, Y: -5}, 1, 10, impl.Point{X: 4, Y: -3}},
		{impl.Point{X: -100, Y: 100}, 14, 301, impl.Point{X: -360, Y: -50}},
		{impl.Point{}, 15, 1000, impl.Point{X: -707, Y: -707}},
		{impl.Point{}, 23, 999, impl.Point{X: 965, Y: -258}},
		{impl.Point{}, 11, 999, impl.Point{X: -965, Y: 258}},
		{impl.Point{}, 12, 1000, impl.Point{X: -1000}},
	}
	for _, x := range cases {
		got, c := impl.PlaceAt(x.from, x.d, x.radius)
		same(t, "place", got, x.want)
		same(t, "code", c, impl.OK)
	}
}

func TestPlaceAtEndOfPlaces(t *testing.T) {
	cases := []struct {
		from            impl.Point
		d, radius, code int64
	}{
		{impl.Point{X: 10000}, 0, 0, impl.OK},
		{impl.Point{X: 10000}, 0, 1, impl.ErrFull},
		{impl.Point{X: 9999}, 0, 1, impl.OK},
		{impl.Point{X: 9000}, 0, 1000, impl.OK},
		{impl.Point{X: 9001}, 0, 1000, impl.ErrFull},
		{impl.Point{X: 10000}, 1, 1, impl.OK},
		{impl.Point{X: 10000}, 1, 2, impl.ErrFull},
		{impl.Point{Y: 9000}, 6, 1000, impl.OK},
		{impl.Point{Y: 9001}, 6, 1000, impl.ErrFull},
		{impl.Point{X: -9000}, 12, 1000, impl.OK},
		{impl.Point{X: -9001}, 12, 1000, impl.ErrFull},
		{impl.Point{X: -10000}, 13, 1, impl.OK},
		{impl.Point{Y: -9000}, 18, 1000, impl.OK},
		{impl.Point{Y: -9001}, 18, 1000, impl.ErrFull},
		{impl.Point{X: 10000, Y: 10000}, 3, 1000, impl.ErrFull},
		{impl.Point{X: 10000, Y: 10000}, 15, 1000, impl.OK},
	}
	for _, x := range cases {
		got, c := impl.PlaceAt(x.from, x.d, x.radius)
		same(t, "code", c, x.code)
		if c != impl.OK {
			same(t, "place beside an error", got, impl.Point{})
		} else {
			same(t, "place", got, impl.Point{X: x.from.X + offset(vectors[x.d].X, x.radius), Y: x.from.Y + offset(vectors[x.d].Y, x.radius)})
		}
	}
}

func TestPlaceAtErrorOrder(t *testing.T) {
	for _, from := range somePoints {
		for _, d := range edges {
			for _, r := range edges {
				got, c := impl.PlaceAt(from, d, r)
				switch {
				case !isPlace(from):
					same(t, "no place", c, impl.ErrInvalid)
				case !isDirection(d) || !within(r, 0, 1000):
					same(t, "no direction or radius", c, impl.ErrRange)
				case !isPlace(impl.Point{X: from.X + offset(vectors[d].X, r), Y: from.Y + offset(vectors[d].Y, r)}):
					same(t, "no place behind", c, impl.ErrFull)
				default:
					same(t, "no error", c, impl.OK)
				}
				if c != impl.OK {
					same(t, "place beside an error", got, impl.Point{})
				}
			}
		}
	}
}

// walk turns step by step, so that it needs no remainder.
func walk(d, by int64) int64 {
	for ; by > 0; by-- {
		if d++; d == 24 {
			d = 0
		}
	}
	for ; by < 0; by++ {
		if d--; d < 0 {
			d = 23
		}
	}
	return d
}

func TestTurnBy(t *testing.T) {
	for d := range int64(24) {
		for by := int64(-1000); by <= 1000; by++ {
			got, c := impl.TurnBy(d, by)
			same(t, "turned", got, walk(d, by))
			same(t, "code", c, impl.OK)
		}
	}
	for _, d := range edges {
		for _, by := range edges {
			if !isDirection(d) || !within(by, -1000, 1000) {
				got, c := impl.TurnBy(d, by)
				same(t, "turned beside an error", got, int64(0))
				same(t, "code", c, impl.ErrRange)
			}
		}
	}
}

func TestTurnBetween(t *testing.T) {
	cases := []struct{ from, to, by int64 }{
		{0, 0, 0}, {0, 11, 11}, {0, 12, 12}, {0, 13, -11}, {0, 23, -1}, {1, 23, -2},
		{11, 23, 12}, {12, 0, 12}, {13, 0, 11}, {23, 0, 1}, {23, 11, 12}, {23, 12, -11}, {12, 23, 11}, {23, 23, 0}, {11, 0, -11},
	}
	for _, x := range cases {
		got, c := impl.TurnBetween(x.from, x.to)
		same(t, "turn", got, x.by)
		same(t, "code", c, impl.OK)
	}
	for _, from := range edges {
		for _, to := range edges {
			if !isDirection(from) || !isDirection(to) {
				got, c := impl.TurnBetween(from, to)
				same(t, "turn beside an error", got, int64(0))
				same(t, "code", c, impl.ErrRange)
			}
		}
	}
}

// Promise 2: the shortest turn leads to its direction, and no way around is shorter.
func TestPromise2ShortestTurn(t *testing.T) {
	for from := range int64(24) {
		for to := range int64(24) {
			by, c := impl.TurnBetween(from, to)
			same(t, "code", c, impl.OK)
			if !within(by, -11, 12) {
				t.Errorf("from %d to %d: a turn by %d", from, to, by)
			}
			end, c := impl.TurnBy(from, by)
			same(t, "code", c, impl.OK)
			same(t, "end of the turn", end, to)
			for other := int64(-1000); other <= 1000; other++ {
				if end, _ := impl.TurnBy(from, other); end == to && magnitude(other) < magnitude(by) {
					t.Errorf("from %d to %d: by %d is shorter than by %d", from, to, other, by)
				}
			}
			way, c := impl.WayOf(from, by)
			same(t, "code", c, impl.OK)
			same(t, "end of the way", way[len(way)-1], to)
			same(t, "length of the way", int64(len(way)), magnitude(by)+1)
		}
	}
}

func TestSquareAndRadiusBetween(t *testing.T) {
	cases := []struct {
		a, b           impl.Point
		square, radius int64
	}{
		{impl.Point{}, impl.Point{}, 0, 0},
		{impl.Point{}, impl.Point{X: 3, Y: 4}, 25, 5},
		{impl.Point{X: 3, Y: 4}, impl.Point{}, 25, 5},
		{impl.Point{}, impl.Point{X: 1, Y: 1}, 2, 2},
		{impl.Point{X: -1, Y: -1}, impl.Point{X: 1, Y: 1}, 8, 3},
		{impl.Point{}, impl.Point{X: 1}, 1, 1},
		{impl.Point{}, impl.Point{X: 600, Y: 800}, 1000000, 1000},
		{impl.Point{}, impl.Point{X: 600, Y: 801}, 1001601, 1001},
		{impl.Point{X: -10000, Y: -10000}, impl.Point{X: 10000, Y: 10000}, 800000000, 28285},
		{impl.Point{X: 10000}, impl.Point{X: -10000}, 400000000, 20000},
	}
	for _, x := range cases {
		square, c := impl.SquareBetween(x.a, x.b)
		same(t, "square", square, x.square)
		same(t, "code", c, impl.OK)
		radius, c := impl.RadiusBetween(x.a, x.b)
		same(t, "radius", radius, x.radius)
		same(t, "code", c, impl.OK)
	}
	for x := int64(-45); x <= 45; x++ {
		for y := int64(-45); y <= 45; y++ {
			square := x*x + y*y
			r, _ := impl.RadiusBetween(impl.Point{X: 7, Y: -9}, impl.Point{X: 7 + x, Y: y - 9})
			if r*r < square || r > 0 && (r-1)*(r-1) >= square {
				t.Errorf("radius %d for the square %d", r, square)
			}
		}
	}
}

func TestPairsOfPointsErrors(t *testing.T) {
	for _, a := range somePoints {
		for _, b := range somePoints {
			want := int64(impl.OK)
			if !isPlace(a) || !isPlace(b) {
				want = impl.ErrInvalid
			}
			square, c := impl.SquareBetween(a, b)
			same(t, "code of SquareBetween", c, want)
			radius, c := impl.RadiusBetween(a, b)
			same(t, "code of RadiusBetween", c, want)
			if want != impl.OK {
				same(t, "square beside an error", square, int64(0))
				same(t, "radius beside an error", radius, int64(0))
			}
			// Two equal points that are no places are invalid first.
			if want == impl.OK && a == b {
				want = impl.ErrState
			}
			d, c := impl.DirectionTo(a, b)
			same(t, "code of DirectionTo", c, want)
			if want != impl.OK {
				same(t, "direction beside an error", d, int64(0))
			}
		}
	}
}

// bestDirection is the first direction with the greatest scalar product.
func bestDirection(x, y int64) int64 {
	best := int64(0)
	for d, v := range vectors {
		if v.X*x+v.Y*y > vectors[best].X*x+vectors[best].Y*y {
			best = int64(d)
		}
	}
	return best
}

func TestDirectionTo(t *testing.T) {
	for _, from := range []impl.Point{{}, {X: -300, Y: 500}} {
		for x := int64(-70); x <= 70; x++ {
			for y := int64(-70); y <= 70; y++ {
				if x == 0 && y == 0 {
					continue
				}
				d, c := impl.DirectionTo(from, impl.Point{X: from.X + x, Y: from.Y + y})
				same(t, "direction", d, bestDirection(x, y))
				same(t, "code", c, impl.OK)
			}
		}
	}
	for d, v := range vectors {
		got, _ := impl.DirectionTo(impl.Point{}, v)
		same(t, "direction of a vector", got, int64(d))
	}
	far, c := impl.DirectionTo(impl.Point{X: 10000, Y: 10000}, impl.Point{X: -10000, Y: -10000})
	same(t, "direction across", far, int64(15))
	same(t, "code", c, impl.OK)
}

// ties has vectors with the same scalar product for two neighbouring directions of the first quarter: the lesser one is the index.
var ties = [6]impl.Point{{X: 259, Y: 34}, {X: 241, Y: 100}, {X: 69, Y: 53}, {X: 53, Y: 69}, {X: 100, Y: 241}, {X: 34, Y: 259}}

func TestDirectionToTies(t *testing.T) {
	for d := range int64(24) {
		v := ties[d%6]
		for range d / 6 {
			v = impl.Point{X: -v.Y, Y: v.X}
		}
		next := (d + 1) % 24
		same(t, "a tie", vectors[d].X*v.X+vectors[d].Y*v.Y, vectors[next].X*v.X+vectors[next].Y*v.Y)
		got, c := impl.DirectionTo(impl.Point{X: -2, Y: 3}, impl.Point{X: v.X - 2, Y: v.Y + 3})
		same(t, "code", c, impl.OK)
		same(t, "the least one between "+strconv.FormatInt(d, 10)+" and the next", got, min(d, next))
	}
}

func TestWayOf(t *testing.T) {
	cases := []struct {
		from, by int64
		want     []int64
	}{
		{0, 0, []int64{0}}, {23, 0, []int64{23}}, {0, 2, []int64{0, 1, 2}}, {0, -2, []int64{0, 23, 22}},
		{22, 3, []int64{22, 23, 0, 1}}, {11, 2, []int64{11, 12, 13}}, {13, -2, []int64{13, 12, 11}}, {1, -3, []int64{1, 0, 23, 22}},
	}
	for _, x := range cases {
		got, c := impl.WayOf(x.from, x.by)
		same(t, "code", c, impl.OK)
		if !slices.Equal(got, x.want) {
			t.Errorf("way from %d by %d: got %v, want %v", x.from, x.by, got, x.want)
		}
	}
	for _, from := range edges {
		for _, by := range edges {
			checkWay(t, from, by)
		}
	}
}

func checkWay(t *testing.T, from, by int64) {
	t.Helper()
	way, c := impl.WayOf(from, by)
	if !isDirection(from) || !within(by, -1000, 1000) {
		same(t, "code", c, impl.ErrRange)
		same(t, "length beside an error", len(way), 0)
		return
	}
	same(t, "code", c, impl.OK)
	same(t, "length", int64(len(way)), magnitude(by)+1)
	for i, d := range way {
		turn := int64(i)
		if by < 0 {
			turn = -turn
		}
		same(t, "direction on the way", d, walk(from, turn))
	}
}

func TestRootUp(t *testing.T) {
	cases := []struct{ n, root int64 }{
		{0, 0}, {1, 1}, {2, 2}, {3, 2}, {4, 2}, {5, 3}, {9, 3}, {24, 5}, {25, 5}, {26, 6},
		{999998000001, 999999}, {999998000002, 1000000}, {999999999999, 1000000}, {1000000000000, 1000000},
	}
	for _, x := range cases {
		got, c := impl.RootUp(x.n)
		same(t, "root", got, x.root)
		same(t, "code", c, impl.OK)
	}
	for _, n := range []int64{-1, -4, 1000000000001, math.MinInt64, math.MaxInt64} {
		got, c := impl.RootUp(n)
		same(t, "root beside an error", got, int64(0))
		same(t, "code", c, impl.ErrRange)
	}
}

func TestRootUpAroundSquares(t *testing.T) {
	for r := int64(1); r <= 1000000; r += 1 + r/50 {
		for n := max(0, r*r-2); n <= min(r*r+2, 1000000000000); n++ {
			got, c := impl.RootUp(n)
			exact := new(big.Int).Sqrt(big.NewInt(n)).Int64()
			if exact*exact < n {
				exact++
			}
			same(t, "root", got, exact)
			same(t, "code", c, impl.OK)
		}
	}
}

// Promise 1: every function returns for all numbers, with equal results for equal arguments.
func TestPromise1Directions(t *testing.T) {
	for _, a := range edges {
		same(t, "VectorOf twice", code(impl.VectorOf(a)), code(impl.VectorOf(a)))
		same(t, "RootUp twice", code(impl.RootUp(a)), code(impl.RootUp(a)))
		for _, b := range edges {
			p := impl.Point{X: a, Y: b}
			for _, q := range somePoints {
				one, first := impl.DirectionTo(p, q)
				two, second := impl.DirectionTo(p, q)
				same(t, "DirectionTo twice", one, two)
				same(t, "DirectionTo twice", first, second)
				same(t, "SquareBetween turned round", code(impl.SquareBetween(p, q)), code(impl.SquareBetween(q, p)))
				same(t, "RadiusBetween turned round", code(impl.RadiusBetween(p, q)), code(impl.RadiusBetween(q, p)))
			}
		}
	}
}

// Promise 1: a way shares no memory with an earlier one.
func TestPromise1WaysAreNew(t *testing.T) {
	for _, by := range []int64{-1000, -25, -1, 0, 1, 25, 1000} {
		first, _ := impl.WayOf(5, by)
		kept := slices.Clone(first)
		second, _ := impl.WayOf(5, by)
		for i := range first {
			first[i] = -7
		}
		_ = append(first, -7)
		third, _ := impl.WayOf(5, by)
		if !slices.Equal(second, kept) || !slices.Equal(third, kept) {
			t.Errorf("ways by %d: %v, then %v and %v", by, kept, second, third)
		}
	}
}
