package tests

import (
	"math"
	"math/big"
	"math/rand"
	"slices"
	"strconv"
	"strings"
	"testing"

	"loop.example/g00932/impl"
)

// points builds points from X and Y in turn.
func points(numbers ...int64) []impl.Point {
	list := []impl.Point{}
	for i := 0; i < len(numbers); i += 2 {
		list = append(list, impl.Point{X: numbers[i], Y: numbers[i+1]})
	}
	return list
}

func building(storeys, each int64, corners []impl.Point) impl.Zone {
	return impl.Zone{Kind: impl.ZoneBuilding, Storeys: storeys, Each: each, Corners: corners}
}

func road(corners []impl.Point) impl.Zone {
	return impl.Zone{Kind: impl.ZoneRoad, Corners: corners}
}

func air(corners []impl.Point) impl.Zone {
	return impl.Zone{Kind: impl.ZoneAir, Corners: corners}
}

// box is a rectangle, from its lower left corner around.
func box(left, low, right, high int64) []impl.Point {
	return points(left, low, right, low, right, high, left, high)
}

// twelve has MaxCorners corners.
func twelve() []impl.Point {
	return points(0, 0, 40, 0, 70, 20, 90, 50, 90, 90, 70, 120, 40, 140, 0, 140, -30, 120, -50, 90, -50, 50, -30, 20)
}

// goodOutlines has corners of zones, with 3 to 12 corners and at the limits of places.
func goodOutlines() [][]impl.Point {
	return [][]impl.Point{
		points(0, 0, 100, 0, 0, 100), points(0, 0, 1, 0, 0, 1), points(0, 0, 5, 1, 5, 2), points(-3, -2, 4, -1, 0, 5), twelve(), twelve()[1:], twelve()[:11],
		box(-10000, -10000, 10000, 10000), box(50, -50, 60, 50), points(-10000, -10000, 10000, -10000, -10000, 10000), points(-10000, -10000, 10000, 9999, 9999, 10000),
		points(-10000, -10000, 9999, 9998, 10000, 10000), points(0, -4, 3, 0, 0, 4, -3, 0), points(2, 0, 4, 1, 4, 3, 2, 4, 0, 3, 0, 1), points(9998, 9999, 10000, 9999, 9999, 10000),
	}
}

// badOutlines has corners of no zones, each for one reason.
func badOutlines() [][]impl.Point {
	clockwise := twelve()
	slices.Reverse(clockwise)
	swapped := twelve()
	swapped[7], swapped[8] = swapped[8], swapped[7]
	straight := slices.Insert(twelve()[:11], 1, impl.Point{X: 20})
	return [][]impl.Point{
		nil, {}, points(0, 0), points(0, 0, 1, 0), clockwise, swapped, straight, slices.Insert(twelve(), 1, impl.Point{X: 20, Y: -1}),
		points(0, 0, 0, 100, 100, 0), points(0, 0, 10, 0, 20, 0), points(0, 0, 20, 0, 10, 0), points(-10000, -10000, 9999, 9999, 10000, 10000), points(0, 0, 10, 0, 20, 0, 0, 10), points(0, 0, 20, 0, 0, 20, 0, 10),
		points(10, 0, 20, 0, 0, 10, 0, 0), points(0, 0, 20, 0, 10, 10, 0, 20), points(0, 0, 10, 0, 0, 10, 10, 10), points(0, 0, 10, 10, 10, 0, 0, 10),
		points(0, 0, 20, 0, 5, 5, 0, 20), points(0, 0, 20, 0, 9, 9, 0, 20), points(0, 0, 0, 0, 0, 0), points(0, 0, 10, 0, 10, 0, 0, 10), points(0, 0, 10, 0, 0, 10, 0, 0),
		points(0, 0, 10, 0, 0, 10, 0, 0, 10, 0, 0, 10), points(0, -5, 3, 4, -5, -1, 5, -1, -3, 4), points(0, 0, 10001, 0, 0, 100), points(0, -10001, 100, 0, 0, 100),
		points(-10001, 0, 100, 0, 0, 100), points(0, 0, 100, 0, 0, 10001), points(0, 0, math.MaxInt64, 0, 0, 100), points(math.MinInt64, 0, 100, 0, 0, math.MaxInt64),
		make([]impl.Point, 5000), slices.Repeat(twelve(), 2),
	}
}

// goodZones has storeys, heights of storeys and outlines at their limits.
func goodZones() []impl.Zone {
	list := []impl.Zone{}
	for i, corners := range goodOutlines() {
		heights := [][2]int64{{3, 30}, {1, 20}, {1, 60}, {60, 20}, {60, 33}, {33, 60}, {50, 40}, {40, 50}}[i%8]
		list = append(list, building(heights[0], heights[1], corners), road(corners), air(corners))
	}
	return list
}

// badZones has zones that are not valid, each for one reason.
func badZones() []impl.Zone {
	shape := goodOutlines()[0]
	list := []impl.Zone{{}, building(1, 20, nil), road(nil)}
	for _, kind := range []int64{0, 4, -1, 5, math.MinInt64, math.MaxInt64} {
		list = append(list, impl.Zone{Kind: kind, Corners: shape}, impl.Zone{Kind: kind, Storeys: 3, Each: 30, Corners: shape})
	}
	for _, x := range [][2]int64{
		{0, 0}, {0, 30}, {61, 20}, {-1, 30}, {3, 0}, {3, 19}, {3, 61}, {3, -30}, {-3, -30}, {34, 60}, {60, 34}, {50, 41}, {41, 50}, {60, 60},
		{math.MaxInt64, 30}, {math.MinInt64, 30}, {3, math.MaxInt64}, {3, math.MinInt64}, {1 << 62, 20}, {math.MinInt64, 60}, {1 << 32, 1 << 32},
	} {
		list = append(list, building(x[0], x[1], shape))
	}
	for _, x := range [][2]int64{{1, 0}, {0, 20}, {3, 30}, {-1, 0}, {0, -1}, {math.MaxInt64, 0}, {0, math.MinInt64}} {
		for _, kind := range []int64{impl.ZoneRoad, impl.ZoneAir} {
			list = append(list, impl.Zone{Kind: kind, Storeys: x[0], Each: x[1], Corners: shape})
		}
	}
	for _, corners := range badOutlines() {
		list = append(list, building(3, 30, corners), road(corners), air(corners))
	}
	return list
}

// left is positive if c is on the left of the way from a to b.
func left(a, b, c impl.Point) int64 { return (b.X-a.X)*(c.Y-a.Y) - (b.Y-a.Y)*(c.X-a.X) }

// hull returns corners around points, without points on sides.
func hull(list []impl.Point) []impl.Point {
	slices.SortFunc(list, func(a, b impl.Point) int { return int(2*(a.X-b.X)*30000 + (a.Y - b.Y)) })
	around := []impl.Point{}
	for range 2 {
		start := len(around)
		for _, p := range list {
			for len(around) > start+1 && left(around[len(around)-2], around[len(around)-1], p) <= 0 {
				around = around[:len(around)-1]
			}
			around = append(around, p)
		}
		around = around[:len(around)-1]
		slices.Reverse(list)
	}
	return around
}

func randomPlace(r *rand.Rand, most int64) impl.Point {
	return impl.Point{X: r.Int63n(2*most+1) - most, Y: r.Int63n(2*most+1) - most}
}

// randomOutline has 3 to 12 corners whose numbers are at most most.
func randomOutline(r *rand.Rand, most int64) []impl.Point {
	for {
		list := []impl.Point{}
		for range 3 + r.Intn(40) {
			list = append(list, randomPlace(r, most))
		}
		corners := hull(list)
		if len(corners) > 12 {
			corners = corners[:12]
		}
		if len(corners) > 2 && slices.ContainsFunc(corners, func(p impl.Point) bool { return left(corners[0], corners[1], p) > 0 }) {
			first := r.Intn(len(corners))
			return slices.Concat(corners[first:], corners[:first])
		}
	}
}

func randomZone(r *rand.Rand, most int64) impl.Zone {
	corners := randomOutline(r, most)
	switch r.Intn(3) {
	case 0:
		return building(1+int64(r.Intn(60)), 20+int64(r.Intn(14)), corners)
	case 1:
		return road(corners)
	}
	return air(corners)
}

// someZones has good zones and many random ones, small, large and as large as they may be.
func someZones() []impl.Zone {
	r := rand.New(rand.NewSource(5))
	list := goodZones()
	for _, most := range []int64{2, 5, 5, 20, 300, 1500, 10000} {
		for range 12 {
			list = append(list, randomZone(r, most))
		}
	}
	return list
}

func sides(z impl.Zone) [][2]impl.Point {
	list := [][2]impl.Point{}
	for i, c := range z.Corners {
		list = append(list, [2]impl.Point{z.Corners[(i+len(z.Corners)-1)%len(z.Corners)], c})
	}
	return list
}

// shoelace is twice the area.
func shoelace(corners []impl.Point) int64 {
	sum := int64(0)
	for i, c := range corners {
		next := corners[(i+1)%len(corners)]
		sum += c.X*next.Y - next.X*c.Y
	}
	return sum
}

// whereIs compares the zone with the triangles between p and its sides, whose areas together are greater if p is outside.
func whereIs(z impl.Zone, p impl.Point) int64 {
	sum, flat := int64(0), false
	for _, s := range sides(z) {
		area := magnitude(left(s[0], s[1], p))
		sum += area
		flat = flat || area == 0
	}
	switch {
	case sum != shoelace(z.Corners):
		return 0
	case flat:
		return 1
	}
	return 2
}

func sign(n int64) int64 {
	switch {
	case n > 0:
		return 1
	case n < 0:
		return -1
	}
	return 0
}

// between reports whether p, which is on one straight line with a and b, is one of them or between them.
func between(a, b, p impl.Point) bool {
	return within(p.X, min(a.X, b.X), max(a.X, b.X)) && within(p.Y, min(a.Y, b.Y), max(a.Y, b.Y))
}

// cross reports whether two segments have a common point.
func cross(a, b, c, d impl.Point) bool {
	one, two := sign(left(a, b, c)), sign(left(a, b, d))
	three, four := sign(left(c, d, a)), sign(left(c, d, b))
	return one*two < 0 && three*four < 0 || one == 0 && between(a, b, c) || two == 0 && between(a, b, d) ||
		three == 0 && between(c, d, a) || four == 0 && between(c, d, b)
}

// met looks for common points of the line and the sides instead of clipping.
func met(z impl.Zone, a, b impl.Point) bool {
	return whereIs(z, a) > 0 || whereIs(z, b) > 0 || slices.ContainsFunc(sides(z), func(s [2]impl.Point) bool { return cross(a, b, s[0], s[1]) })
}

func stopsLoad(z impl.Zone, height int64) bool {
	return z.Kind == impl.ZoneRoad || z.Kind == impl.ZoneBuilding && height < z.Storeys*z.Each+20
}

func stopsJib(z impl.Zone, height int64) bool {
	return z.Kind == impl.ZoneAir || z.Kind == impl.ZoneBuilding && height < z.Storeys*z.Each+20
}

// equalZones compares without the program, so that it can test SameZone.
func equalZones(a, b impl.Zone) bool {
	return a.Kind == b.Kind && a.Storeys == b.Storeys && a.Each == b.Each && slices.Equal(a.Corners, b.Corners)
}

func copiedZone(z impl.Zone) impl.Zone {
	z.Corners = slices.Clone(z.Corners)
	return z
}

func TestZoneConstants(t *testing.T) {
	for i, n := range []int64{impl.ZoneBuilding, impl.ZoneRoad, impl.ZoneAir, impl.MaxCorners, impl.MaxZones, impl.ZoneGap} {
		same(t, "constant "+strconv.Itoa(i), n, []int64{1, 2, 3, 12, 10, 20}[i])
	}
}

func TestValidZone(t *testing.T) {
	for i, z := range someZones() {
		same(t, "zone "+strconv.Itoa(i), impl.ValidZone(z), true)
	}
	for i, z := range badZones() {
		same(t, "no zone "+strconv.Itoa(i), impl.ValidZone(z), false)
	}
	numbers := append([]int64{2, 19, 20, 21, 33, 34, 40, 50, 59, 60, 61, 100, 2000}, edges...)
	for _, storeys := range numbers {
		for _, each := range numbers {
			want := within(storeys, 1, 60) && within(each, 20, 60) && storeys*each <= 2000
			same(t, "building", impl.ValidZone(building(storeys, each, twelve())), want)
			for _, kind := range numbers {
				want := storeys == 0 && each == 0 && within(kind, 2, 3)
				same(t, "kind", kind != 1 && impl.ValidZone(impl.Zone{Kind: kind, Storeys: storeys, Each: each, Corners: twelve()}), want)
			}
		}
	}
	for _, a := range edges {
		for _, b := range edges {
			p := impl.Point{X: a, Y: b}
			same(t, "corner", impl.ValidZone(road([]impl.Point{{X: -10000, Y: 10000}, {X: -10000, Y: -10000}, p})), isPlace(p) && a > -10000)
		}
	}
}

// isConvex takes the corners in threes, in the order of the list: all of them turn to the left.
func isConvex(corners []impl.Point) bool {
	for k := range corners {
		for j := range k {
			for i := range j {
				if left(corners[i], corners[j], corners[k]) <= 0 {
					return false
				}
			}
		}
	}
	return true
}

func TestValidZoneOfAllSmallOutlines(t *testing.T) {
	valid := 0
	for n := 3; n <= 5; n++ {
		count := int(math.Pow(9, float64(n)))
		for number := range count {
			corners := []impl.Point{}
			for range n {
				corners = append(corners, impl.Point{X: int64(number % 3), Y: int64(number / 3 % 3)})
				number /= 9
			}
			want := isConvex(corners)
			if got := impl.ValidZone(air(corners)); got != want {
				t.Errorf("%v: got %v, want %v", corners, got, want)
			}
			if want {
				valid++
			}
		}
	}
	if valid < 100 {
		t.Errorf("only %d zones", valid)
	}
}

func TestValidZoneOfChangedOutlines(t *testing.T) {
	r := rand.New(rand.NewSource(6))
	for _, z := range someZones() {
		for range 30 {
			other := copiedZone(z)
			i, k := r.Intn(len(z.Corners)), r.Intn(len(z.Corners))
			switch r.Intn(3) {
			case 0:
				other.Corners[i], other.Corners[k] = other.Corners[k], other.Corners[i]
			case 1:
				other.Corners[i] = other.Corners[k]
			default:
				other.Corners[i].X += int64(r.Intn(5)) - 2
				other.Corners[i].Y += int64(r.Intn(5)) - 2
			}
			same(t, "changed zone", impl.ValidZone(other), isConvex(other.Corners) && !slices.ContainsFunc(other.Corners, func(p impl.Point) bool { return !isPlace(p) }))
		}
	}
}

func TestSameZone(t *testing.T) {
	zones := slices.Concat(goodZones(), badZones())
	for i, a := range zones {
		for k, b := range zones {
			same(t, strconv.Itoa(i)+" and "+strconv.Itoa(k), impl.SameZone(a, copiedZone(b)), equalZones(a, b))
		}
	}
	changes := []func(z *impl.Zone){
		func(z *impl.Zone) { z.Kind++ }, func(z *impl.Zone) { z.Storeys-- }, func(z *impl.Zone) { z.Each = math.MinInt64 }, func(z *impl.Zone) { z.Corners = nil },
		func(z *impl.Zone) { z.Corners[0].X++ }, func(z *impl.Zone) { z.Corners[11].Y-- }, func(z *impl.Zone) { z.Corners = z.Corners[:11] },
		func(z *impl.Zone) { z.Corners = append(z.Corners[1:], z.Corners[0]) }, func(z *impl.Zone) { slices.Reverse(z.Corners) },
	}
	for i, change := range changes {
		z, other := building(3, 30, twelve()), building(3, 30, twelve())
		change(&other)
		same(t, "change "+strconv.Itoa(i), impl.SameZone(z, other), false)
		same(t, "change "+strconv.Itoa(i), impl.SameZone(other, z), false)
		same(t, "change "+strconv.Itoa(i)+" of both", impl.SameZone(other, copiedZone(other)), true)
	}
	same(t, "nil and empty", impl.SameZone(impl.Zone{}, impl.Zone{Corners: points()}), true)
}

func TestZoneHeightAndArea(t *testing.T) {
	for _, z := range someZones() {
		height, one := impl.ZoneHeight(z)
		area, two := impl.DoubleAreaOf(z)
		same(t, "codes", one+two, impl.OK)
		same(t, "height", height, z.Storeys*z.Each)
		same(t, "area", area, shoelace(z.Corners))
	}
	for _, z := range badZones() {
		height, one := impl.ZoneHeight(z)
		area, two := impl.DoubleAreaOf(z)
		same(t, "numbers beside an error", height|area, int64(0))
		same(t, "codes", [2]int64{one, two}, [2]int64{impl.ErrInvalid, impl.ErrInvalid})
	}
	cases := []struct {
		z            impl.Zone
		height, area int64
	}{
		{building(3, 30, points(0, 0, 100, 0, 0, 100)), 90, 10000}, {building(1, 20, box(-5, -5, 5, 5)), 20, 200}, {building(50, 40, box(50, -50, 60, 50)), 2000, 2000},
		{building(40, 50, twelve()), 2000, 31200}, {building(60, 33, points(0, 0, 1, 0, 0, 1)), 1980, 1}, {road(box(-10000, -10000, 10000, 10000)), 0, 800000000},
		{air(points(0, 0, 5, 1, 5, 2)), 0, 5}, {air(points(-10000, -10000, 10000, 9999, 9999, 10000)), 0, 39999},
	}
	for i, x := range cases {
		height, _ := impl.ZoneHeight(x.z)
		area, _ := impl.DoubleAreaOf(x.z)
		same(t, "height of case "+strconv.Itoa(i), height, x.height)
		same(t, "area of case "+strconv.Itoa(i), area, x.area)
	}
}

// placesNear has places on and beside the corners and sides of a zone, in it and around it.
func placesNear(z impl.Zone) []impl.Point {
	list := []impl.Point{}
	for _, s := range sides(z) {
		middle := impl.Point{X: (s[0].X + s[1].X) / 2, Y: (s[0].Y + s[1].Y) / 2}
		beyond := impl.Point{X: 2*s[1].X - s[0].X, Y: 2*s[1].Y - s[0].Y}
		for _, p := range []impl.Point{s[1], middle, beyond} {
			for _, by := range points(0, 0, 1, 0, -1, 0, 0, 1, 0, -1, 1, 1, -1, -1) {
				if q := (impl.Point{X: p.X + by.X, Y: p.Y + by.Y}); isPlace(q) {
					list = append(list, q)
				}
			}
		}
	}
	return list
}

func TestPlaceInZone(t *testing.T) {
	found := [3]int{}
	for _, z := range someZones() {
		for _, p := range slices.Concat(placesNear(z), somePoints[:8]) {
			where, k := impl.PlaceInZone(z, p)
			same(t, "code", k, impl.OK)
			same(t, "where "+impl.ZoneText(z), where, whereIs(z, p))
			found[where]++
		}
		for _, c := range z.Corners {
			where, _ := impl.PlaceInZone(z, c)
			same(t, "corner of "+impl.ZoneText(z), where, int64(1))
		}
	}
	if slices.Min(found[:]) < 500 {
		t.Errorf("only %v places", found)
	}
}

func TestPlaceInZoneAsTold(t *testing.T) {
	cases := []struct {
		corners []impl.Point
		x, y    int64
		want    int64
	}{
		{twelve(), 0, 0, 1}, {twelve(), 20, 0, 1}, {twelve(), 40, 0, 1}, {twelve(), 41, 0, 0}, {twelve(), -1, 0, 0}, {twelve(), 20, -1, 0}, {twelve(), 20, 1, 2},
		{twelve(), 55, 10, 1}, {twelve(), 56, 10, 0}, {twelve(), 54, 10, 2}, {twelve(), 90, 70, 1}, {twelve(), 90, 91, 0}, {twelve(), -40, 35, 1}, {twelve(), -41, 35, 0},
		{twelve(), -50, 140, 0}, {twelve(), 80, 0, 0}, {points(0, 0, 1, 0, 0, 1), 1, 1, 0}, {points(0, 0, 1, 0, 0, 1), 2, -1, 0}, {points(0, 0, 1, 0, 0, 1), -1, 0, 0},
		{box(-10000, -10000, 10000, 10000), 10000, 10000, 1}, {box(-10000, -10000, 10000, 10000), 9999, -9999, 2}, {box(-10000, -10000, 10000, 10000), -10000, 9, 1},
		{points(-10000, -10000, 9999, 9998, 10000, 10000), 0, 0, 1}, {points(-10000, -10000, 9999, 9998, 10000, 10000), 0, 1, 0}, {points(-10000, -10000, 9999, 9998, 10000, 10000), 5000, 4999, 0}, {points(-10000, -10000, 10000, 9999, 9999, 10000), 9998, 9998, 2},
		{points(-10000, -10000, 10000, 9999, 9999, 10000), 9998, 9997, 0}, {points(0, 0, 100, 0, 0, 100), 51, 50, 0}, {points(0, 0, 100, 0, 0, 100), 50, 50, 1},
	}
	for i, x := range cases {
		for _, z := range []impl.Zone{building(3, 30, x.corners), road(x.corners), air(x.corners)} {
			got, k := impl.PlaceInZone(z, impl.Point{X: x.x, Y: x.y})
			same(t, "case "+strconv.Itoa(i), got, x.want)
			same(t, "code of case "+strconv.Itoa(i), k, impl.OK)
		}
	}
}

func TestLineMeetsZoneAsTold(t *testing.T) {
	triangle, thin := points(0, 0, 100, 0, 0, 100), points(0, 0, 5, 1, 5, 2)
	cases := []struct {
		corners []impl.Point
		line    []impl.Point
		want    bool
	}{
		{triangle, points(-10, 10, 200, 10), true}, {triangle, points(100, 20, 20, 100), false}, {triangle, points(10, 10, 20, 20), true}, {triangle, points(10, 10, 10, 10), true},
		{triangle, points(0, 0, 0, 0), true}, {triangle, points(50, 50, 50, 50), true}, {triangle, points(51, 50, 51, 50), false}, {triangle, points(0, -1, 0, -1), false},
		{triangle, points(-100, 0, -1, 0), false}, {triangle, points(-100, 0, 0, 0), true}, {triangle, points(-50, 0, 150, 0), true}, {triangle, points(30, 0, 60, 0), true},
		{triangle, points(101, 0, 200, 0), false}, {triangle, points(100, 0, 200, 0), true}, {triangle, points(-50, -1, 150, -1), false}, {triangle, points(200, -100, -100, 200), true},
		{triangle, points(200, -99, -99, 200), false}, {triangle, points(150, -50, 101, -1), false}, {triangle, points(-10, 10, 10, -10), true}, {triangle, points(-10, 9, 10, -11), false},
		{triangle, points(50, -10, 50, 0), true}, {triangle, points(50, -10, 50, -1), false}, {triangle, points(50, 60, 50, 50), true}, {triangle, points(50, 60, 50, 51), false},
		{triangle, points(100, -10, 100, 10), true}, {triangle, points(101, -10, 101, 10), false}, {triangle, points(-10, 100, 10, 100), true}, {triangle, points(-10, 101, 10, 101), false},
		{thin, points(2, 0, 3, 2), true}, {thin, points(3, 2, 2, 0), true}, {thin, points(2, 0, 3, 0), false}, {thin, points(2, 1, 3, 2), false}, {thin, points(1, 0, 2, 1), true},
		{thin, points(0, 1, 1, 0), true}, {thin, points(-1, 0, 1, 1), false}, {thin, points(4, 0, 6, 1), false}, {thin, points(4, 0, 6, 2), true}, {thin, points(6, 0, 6, 9), false},
		{box(0, 0, 1, 1), points(-1, 1, 1, -1), true}, {box(0, 0, 1, 1), points(-1, 3, 2, 0), true}, {box(0, 0, 1, 1), points(-2, 1, 1, -1), false}, {box(0, 0, 1, 1), points(0, 3, 3, 0), false},
		{box(0, 0, 1, 1), points(-1, 1, 1, 2), false}, {box(0, 0, 1, 1), points(-2, 0, 2, 1), true}, {box(0, 0, 1, 1), points(2, -1, 2, 2), false}, {box(0, 0, 1, 1), points(1, -1, 1, 2), true},
		{points(9998, 9999, 9999, 10000, 9997, 10000), points(-10000, -10000, 9999, 10000), true}, {points(9998, 9999, 9998, 10000, 9997, 10000), points(-10000, -10000, 9999, 10000), false},
		{points(0, 0, 1, 0, 0, 1), points(-10000, -9999, 10000, 10000), true}, {points(0, 0, 1, 0, 1, 1), points(-10000, -9999, 10000, 10000), false}, {points(0, 0, 2, -1, 1, 0), points(-10000, -9999, 10000, 10000), false},
		{box(-10000, -10000, 10000, 10000), points(-10000, 10000, 10000, -10000), true}, {box(-10000, -10000, -9999, 10000), points(-9998, -10000, 10000, 10000), false},
	}
	for i, x := range cases {
		for _, z := range []impl.Zone{building(3, 30, x.corners), road(x.corners), air(x.corners)} {
			there, one := impl.LineMeetsZone(z, x.line[0], x.line[1])
			back, two := impl.LineMeetsZone(z, x.line[1], x.line[0])
			same(t, "codes", one+two, impl.OK)
			same(t, "case "+strconv.Itoa(i), there, x.want)
			same(t, "case "+strconv.Itoa(i)+" back", back, x.want)
		}
	}
}

func checkMet(t *testing.T, z impl.Zone, a, b impl.Point) {
	t.Helper()
	got, k := impl.LineMeetsZone(z, a, b)
	if want := met(z, a, b); got != want || k != impl.OK {
		t.Errorf("%s and the line %v %v: got %v %d, want %v", impl.ZoneText(z), a, b, got, k, want)
	}
}

// All lines between the places of a small square are tried, so that there are all ways to touch a corner or a side.
func TestLineMeetsZoneOnSmallSquare(t *testing.T) {
	r := rand.New(rand.NewSource(8))
	zones := []impl.Zone{road(points(0, -4, 3, 0, 0, 4, -3, 0)), air(points(0, 0, 1, 0, 0, 1)), road(box(-1, -1, 1, 1)), air(points(-2, -1, 2, 0, 2, 1))}
	for range 12 {
		zones = append(zones, road(randomOutline(r, 3)))
	}
	for _, z := range zones {
		for i := range int64(81) {
			for k := range int64(81) {
				checkMet(t, z, impl.Point{X: i%9 - 4, Y: i/9 - 4}, impl.Point{X: k%9 - 4, Y: k/9 - 4})
			}
		}
	}
}

func TestLineMeetsZoneNearBorders(t *testing.T) {
	r := rand.New(rand.NewSource(9))
	for _, z := range someZones() {
		near := append(placesNear(z), somePoints[:8]...)
		for range 400 {
			checkMet(t, z, near[r.Intn(len(near))], near[r.Intn(len(near))])
			checkMet(t, z, randomPlace(r, 10000), near[r.Intn(len(near))])
			checkMet(t, z, randomPlace(r, 10000), randomPlace(r, 10000))
		}
	}
}

// beside returns a place that is as near to the line from a to b as a place can be, on the left and without being on it, if there is one.
func beside(a, b impl.Point) (impl.Point, bool) {
	way := impl.Point{X: b.X - a.X, Y: b.Y - a.Y}
	u, v := new(big.Int), new(big.Int)
	if new(big.Int).GCD(v, u, big.NewInt(way.X), big.NewInt(way.Y)).Int64() != 1 {
		return impl.Point{}, false
	}
	p := impl.Point{X: a.X - u.Int64(), Y: a.Y + v.Int64()}
	if (p.X-a.X)*way.X+(p.Y-a.Y)*way.Y < 0 {
		p = impl.Point{X: p.X + way.X, Y: p.Y + way.Y}
	}
	return p, isPlace(p)
}

// The first corner is beside a long line, and the other ones are so that its angle is very small: floats could not tell whether the zone is met.
func TestLineMeetsZoneByHairsBreadth(t *testing.T) {
	r := rand.New(rand.NewSource(10))
	answers := map[bool]int{}
	for range 40000 {
		a, b, one := randomPlace(r, 10000), randomPlace(r, 10000), randomPlace(r, 10000)
		near, ok := beside(a, b)
		if !ok {
			continue
		}
		two, ok := beside(near, one)
		if !ok {
			continue
		}
		same(t, "how near", left(a, b, near)+left(near, one, two), int64(2))
		z := road([]impl.Point{near, one, two})
		checkMet(t, z, a, b)
		checkMet(t, z, b, a)
		if left(a, b, one) > 0 && left(a, b, two) > 0 || left(a, b, one) < 0 && left(a, b, two) < 0 {
			answers[met(z, a, b)]++
		}
	}
	if answers[true] < 1000 || answers[false] < 1000 {
		t.Errorf("only %v lines", answers)
	}
}

func TestBlocksAsTold(t *testing.T) {
	shape := twelve()
	cases := []struct {
		z         impl.Zone
		height    int64
		load, jib bool
	}{
		{building(3, 30, shape), 0, true, true}, {building(3, 30, shape), 109, true, true}, {building(3, 30, shape), 110, false, false}, {building(3, 30, shape), 90, true, true},
		{building(3, 30, shape), 111, false, false}, {building(3, 30, shape), 2000, false, false}, {building(1, 20, shape), 39, true, true}, {building(1, 20, shape), 40, false, false},
		{building(60, 33, shape), 1999, true, true}, {building(60, 33, shape), 2000, false, false}, {building(50, 40, shape), 2000, true, true}, {building(40, 50, shape), 2000, true, true},
		{building(60, 20, shape), 1219, true, true}, {building(60, 20, shape), 1220, false, false}, {building(1, 60, shape), 79, true, true}, {building(1, 60, shape), 80, false, false},
		{road(shape), 0, true, false}, {road(shape), 5, true, false}, {road(shape), 2000, true, false}, {air(shape), 0, false, true}, {air(shape), 2000, false, true},
	}
	for i, x := range cases {
		load, one := impl.BlocksLoad(x.z, x.height)
		jib, two := impl.BlocksJib(x.z, x.height)
		same(t, "codes", one+two, impl.OK)
		same(t, "load of case "+strconv.Itoa(i), load, x.load)
		same(t, "jib of case "+strconv.Itoa(i), jib, x.jib)
	}
}

// someHeights has heights around what a zone blocks, and others.
func someHeights(z impl.Zone) []int64 {
	top := z.Storeys * z.Each
	return append([]int64{2, 1999, 2000, 2001, top - 1, top, top + 1, top + 19, top + 20, top + 21}, edges...)
}

func TestBlocksAndErrorOrder(t *testing.T) {
	for _, z := range someZones() {
		for _, height := range someHeights(z) {
			load, one := impl.BlocksLoad(z, height)
			jib, two := impl.BlocksJib(z, height)
			inside := within(height, 0, 2000)
			want := int64(impl.OK)
			if !inside {
				want = impl.ErrRange
			}
			same(t, "codes", [2]int64{one, two}, [2]int64{want, want})
			same(t, "load", load, inside && stopsLoad(z, height))
			same(t, "jib", jib, inside && stopsJib(z, height))
		}
	}
	for _, z := range badZones() {
		for _, height := range edges {
			load, one := impl.BlocksLoad(z, height)
			jib, two := impl.BlocksJib(z, height)
			same(t, "codes", [2]int64{one, two}, [2]int64{impl.ErrInvalid, impl.ErrInvalid})
			same(t, "answers beside an error", load || jib, false)
		}
	}
}

func TestZoneAndPlacesErrorOrder(t *testing.T) {
	for i, z := range slices.Concat(goodZones(), badZones()) {
		for k, a := range somePoints {
			b := somePoints[(i+k*5)%len(somePoints)]
			where, one := impl.PlaceInZone(z, a)
			meets, two := impl.LineMeetsZone(z, a, b)
			same(t, "code of PlaceInZone", one == impl.ErrInvalid, !impl.ValidZone(z) || !isPlace(a))
			same(t, "code of LineMeetsZone", two == impl.ErrInvalid, !impl.ValidZone(z) || !isPlace(a) || !isPlace(b))
			if one != impl.OK {
				same(t, "where beside an error", where, int64(0))
			}
			if two != impl.OK {
				same(t, "meets beside an error", meets, false)
			}
		}
	}
	big := road(box(-10000, -10000, 10000, 10000))
	for _, p := range points(10001, 0, -10001, 0, 0, 10001, 0, -10001) {
		same(t, "code", code(impl.PlaceInZone(big, p)), impl.ErrInvalid)
		same(t, "code", code(impl.LineMeetsZone(big, p, impl.Point{})), impl.ErrInvalid)
		same(t, "code", code(impl.LineMeetsZone(big, impl.Point{}, p)), impl.ErrInvalid)
	}
}

// firstStopping is what FirstBlocking returns for valid arguments.
func firstStopping(list []impl.Zone, from, to impl.Point, height int64) int64 {
	for i, z := range list {
		if stopsLoad(z, height) && met(z, from, to) {
			return int64(i)
		}
	}
	return -1
}

func TestFirstBlockingAsTold(t *testing.T) {
	house, street, sky := building(3, 30, points(0, 0, 100, 0, 0, 100)), road(box(50, -50, 60, 50)), air(box(-200, -200, 200, 200))
	tower := building(50, 40, box(40, -100, 70, -90))
	all := []impl.Zone{sky, house, street, tower, house, sky, house, street, sky, tower}
	cases := []struct {
		list         []impl.Zone
		line         []impl.Point
		height, want int64
	}{
		{nil, points(0, 0, 1, 1), 0, -1}, {[]impl.Zone{}, points(0, 0, 0, 0), 2000, -1}, {[]impl.Zone{house, street}, points(0, -20, 100, -20), 200, 1},
		{[]impl.Zone{house, street}, points(-20, 0, 100, 0), 50, 0}, {[]impl.Zone{house, street}, points(-20, 0, -10, 0), 50, -1}, {[]impl.Zone{street, house}, points(-20, 0, 100, 0), 50, 0},
		{all, points(-20, 0, 100, 0), 109, 1}, {all, points(-20, 0, 100, 0), 110, 2}, {all, points(-20, 0, 49, 0), 110, -1}, {all, points(-20, 0, 50, 0), 110, 2}, {all, points(50, 50, 50, 50), 0, 1},
		{all, points(60, 50, 60, 50), 0, 2}, {all, points(61, 50, 61, 50), 0, -1}, {all, points(0, -95, 100, -95), 2000, 3}, {all, points(0, -101, 100, -101), 2000, -1},
		{all, points(0, -101, 80, -89), 2000, 3}, {all[5:], points(40, -100, 40, -101), 7, 4}, {all[5:], points(-10, 10, 10, -10), 7, 1}, {all[5:], points(-10, 10, 10, -10), 110, -1},
		{[]impl.Zone{sky, sky}, points(0, 0, 1, 1), 0, -1}, {all, points(10000, 10000, 9999, -10000), 0, -1},
	}
	for i, x := range cases {
		got, k := impl.FirstBlocking(x.list, x.line[0], x.line[1], x.height)
		same(t, "case "+strconv.Itoa(i), got, x.want)
		same(t, "code of case "+strconv.Itoa(i), k, impl.OK)
	}
}

func randomZones(r *rand.Rand, n int, most int64) []impl.Zone {
	list := []impl.Zone{}
	for range n {
		list = append(list, randomZone(r, most))
	}
	return list
}

// Promise 5: the first blocking zone blocks and is met, and no zone before it does; without one, no zone at all does.
func TestPromise5FirstBlockingZone(t *testing.T) {
	r := rand.New(rand.NewSource(11))
	found := map[int64]int{}
	for n := range 1100 {
		most := []int64{4, 4, 30, 800, 10000}[r.Intn(5)]
		list := randomZones(r, n%11, most)
		// Zones that block no load let later ones be the first.
		for i := range r.Intn(len(list) + 1) {
			list[i] = air(list[i].Corners)
		}
		for range 12 {
			from, to, height := randomPlace(r, most+2), randomPlace(r, most+2), r.Int63n(2001)
			if len(list) > 0 && r.Intn(2) == 0 {
				z := list[r.Intn(len(list))]
				near := placesNear(z)
				from, height = near[r.Intn(len(near))], min(2000, z.Storeys*z.Each+19+r.Int63n(2))
			}
			if !isPlace(to) || !isPlace(from) {
				continue
			}
			got, k := impl.FirstBlocking(list, from, to, height)
			same(t, "code", k, impl.OK)
			same(t, "first zone", got, firstStopping(list, from, to, height))
			found[got]++
			for i, z := range list {
				blocks, one := impl.BlocksLoad(z, height)
				meets, two := impl.LineMeetsZone(z, from, to)
				same(t, "codes", one+two, impl.OK)
				if int64(i) < got || got == -1 {
					same(t, "a zone before it", blocks && meets, false)
				}
				if int64(i) == got {
					same(t, "the zone", blocks && meets, true)
				}
			}
		}
	}
	for i := int64(-1); i < 10; i++ {
		if found[i] < 20 {
			t.Errorf("the zone %d was told only %d times", i, found[i])
		}
	}
}

func TestFirstBlockingErrorOrder(t *testing.T) {
	good := road(box(-10, -10, 10, 10))
	for _, height := range append([]int64{2000, 2001}, edges...) {
		want := int64(impl.OK)
		if !within(height, 0, 2000) {
			want = impl.ErrRange
		}
		for n := range 13 {
			list := slices.Repeat([]impl.Zone{good}, n)
			first, k := impl.FirstBlocking(list, impl.Point{}, impl.Point{X: 1}, height)
			switch {
			case n > 10:
				same(t, "code for "+strconv.Itoa(n)+" zones", k, impl.ErrInvalid)
			default:
				same(t, "code for "+strconv.Itoa(n)+" zones", k, want)
			}
			if n > 10 || n > 0 || want != impl.OK {
				same(t, "first zone", first, int64(0))
			}
		}
		for _, bad := range badZones() {
			for _, list := range [][]impl.Zone{{bad}, {good, bad}, {bad, good}, {good, good, good, good, good, good, good, good, good, bad}} {
				first, k := impl.FirstBlocking(list, impl.Point{}, impl.Point{X: 1}, height)
				same(t, "code", k, impl.ErrInvalid)
				same(t, "first zone beside an error", first, int64(0))
			}
		}
		for _, p := range somePoints {
			for _, list := range [][]impl.Zone{nil, {good}} {
				wanted := want
				if !isPlace(p) {
					wanted = impl.ErrInvalid
				}
				same(t, "code from a point", code(impl.FirstBlocking(list, p, impl.Point{}, height)), wanted)
				same(t, "code to a point", code(impl.FirstBlocking(list, impl.Point{}, p, height)), wanted)
			}
		}
	}
}

func allDirections(but ...int64) []int64 {
	list := []int64{}
	for d := range int64(24) {
		if !slices.Contains(but, d) {
			list = append(list, d)
		}
	}
	return list
}

func TestFreeJibDirectionsAsTold(t *testing.T) {
	ada := crane("ada", 0, 0)
	high := func(height int64) impl.Crane { c := ada; c.Height = height; return c }
	corner := crane("ada", 10000, 10000)
	cases := []struct {
		c    impl.Crane
		list []impl.Zone
		want []int64
	}{
		{ada, nil, allDirections()}, {ada, []impl.Zone{air(box(200, -100, 250, -60)), road(box(50, -50, 60, 50))}, allDirections(23)},
		{ada, []impl.Zone{air(box(300, -10, 310, 10))}, allDirections(0)}, {ada, []impl.Zone{air(box(301, -10, 310, 10))}, allDirections()},
		{ada, []impl.Zone{air(box(-10, 300, 10, 310))}, allDirections(6)}, {ada, []impl.Zone{air(box(259, 150, 270, 160))}, allDirections(2)},
		{ada, []impl.Zone{air(box(260, 150, 270, 160))}, allDirections()}, {ada, []impl.Zone{air(box(259, 151, 270, 160))}, allDirections()},
		{ada, []impl.Zone{air(box(-270, -160, -259, -150))}, allDirections(14)}, {ada, []impl.Zone{air(box(-120, -20, -110, 20))}, allDirections(12)},
		{ada, []impl.Zone{air(box(0, 0, 10, 10))}, []int64{}}, {ada, []impl.Zone{air(box(-10, -10, 10, 10))}, []int64{}}, {ada, []impl.Zone{road(box(-10, -10, 10, 10))}, allDirections()},
		{ada, []impl.Zone{air(box(1, 0, 10, 10))}, allDirections(0, 1, 2, 3, 4, 5)}, {ada, []impl.Zone{air(box(1, 1, 10, 10))}, allDirections(1, 2, 3, 4, 5)},
		{high(109), []impl.Zone{building(3, 30, box(100, -10, 110, 10))}, allDirections(0)}, {high(110), []impl.Zone{building(3, 30, box(100, -10, 110, 10))}, allDirections()},
		{high(2000), []impl.Zone{building(50, 40, box(-10, -400, 10, -300))}, allDirections(18)}, {high(1), []impl.Zone{building(1, 20, box(-10, -400, 10, -300)), air(box(-310, -9, -290, 9))}, allDirections(12, 18)},
		{corner, []impl.Zone{air(box(9990, 9990, 9999, 10000))}, allDirections(12, 13, 14, 15, 16, 17)}, {corner, []impl.Zone{air(box(9999, 9000, 10000, 9999))}, allDirections(15, 16, 17, 18)},
		{corner, []impl.Zone{air(points(9000, 9999, 10000, 10000, 9000, 10000))}, []int64{}}, {crane("ada", 10000, 9900), []impl.Zone{air(points(10000, 9999, 10000, 10000, 9999, 10000))}, allDirections(6)},
		{crane("ada", 9990, 0), []impl.Zone{air(points(9999, -1, 10000, 0, 9999, 1))}, allDirections(0)}, {crane("ada", 9990, 0), []impl.Zone{air(points(9999, 2, 10000, 2, 10000, 3))}, allDirections(1)},
	}
	for i, x := range cases {
		got, k := impl.FreeJibDirections(x.c, x.list)
		same(t, "code of case "+strconv.Itoa(i), k, impl.OK)
		sameNumbers(t, "case "+strconv.Itoa(i), got, x.want)
	}
}

func TestFreeJibDirectionsOfManyCranes(t *testing.T) {
	r := rand.New(rand.NewSource(12))
	blocked := 0
	for n := range 600 {
		c := randomCrane(r, "ada")
		if r.Intn(2) == 0 {
			c.At = impl.Point{X: 10000 - r.Int63n(900), Y: r.Int63n(2)*20000 - 10000}
		}
		list := []impl.Zone{}
		for range n % 11 {
			z := randomZone(r, []int64{3, 30, 300}[r.Intn(3)])
			to := impl.Point{X: c.At.X + r.Int63n(2*c.Jib+1) - c.Jib, Y: c.At.Y + r.Int63n(2*c.Jib+1) - c.Jib}
			for i := range z.Corners {
				z.Corners[i].X += to.X
				z.Corners[i].Y += to.Y
			}
			if impl.ValidZone(z) {
				list = append(list, z)
			}
		}
		want := []int64{}
		for d := range int64(24) {
			end, _ := impl.JibEnd(c, d)
			if !slices.ContainsFunc(list, func(z impl.Zone) bool { return stopsJib(z, c.Height) && met(z, c.At, end) }) {
				want = append(want, d)
			}
		}
		got, k := impl.FreeJibDirections(c, list)
		same(t, "code", k, impl.OK)
		sameNumbers(t, "directions of "+impl.Decimal(int64(n)), got, want)
		blocked += 24 - len(want)
	}
	if blocked < 500 {
		t.Errorf("only %d directions were blocked", blocked)
	}
}

func TestFreeJibDirectionsErrors(t *testing.T) {
	good := road(box(-10, -10, 10, 10))
	lists := [][]impl.Zone{slices.Repeat([]impl.Zone{good}, 11), slices.Repeat([]impl.Zone{good}, 3000)}
	for _, bad := range badZones() {
		lists = append(lists, []impl.Zone{bad}, []impl.Zone{good, good, bad}, []impl.Zone{bad, good})
	}
	for _, list := range lists {
		for _, c := range []impl.Crane{crane("ada", 0, 0), {}, crane("Ada", 0, 0)} {
			got, k := impl.FreeJibDirections(c, list)
			same(t, "code", k, impl.ErrInvalid)
			same(t, "directions beside an error", len(got), 0)
		}
	}
	for _, c := range badCranes() {
		for n := range 11 {
			got, k := impl.FreeJibDirections(c, slices.Repeat([]impl.Zone{good}, n))
			same(t, "code", k, impl.ErrInvalid)
			same(t, "directions beside an error", len(got), 0)
		}
	}
	got, k := impl.FreeJibDirections(crane("ada", 0, 0), slices.Repeat([]impl.Zone{good}, 10))
	same(t, "code", k, impl.OK)
	sameNumbers(t, "directions with 10 zones", got, allDirections())
}

func TestZoneText(t *testing.T) {
	same(t, "text", impl.ZoneText(building(3, 30, points(0, 0, 100, 0, 0, 100))), "building 3x30 0,0 100,0 0,100")
	same(t, "text", impl.ZoneText(building(60, 20, box(-10000, -1, 10000, 10000))), "building 60x20 -10000,-1 10000,-1 10000,10000 -10000,10000")
	same(t, "text", impl.ZoneText(road(points(-3, -2, 4, -1, 0, 5))), "road -3,-2 4,-1 0,5")
	same(t, "text", impl.ZoneText(air(twelve())), "air 0,0 40,0 70,20 90,50 90,90 70,120 40,140 0,140 -30,120 -50,90 -50,50 -30,20")
	for _, z := range badZones() {
		same(t, "text of no zone", impl.ZoneText(z), "")
	}
	for _, z := range someZones() {
		words := []string{map[int64]string{1: "building", 2: "road", 3: "air"}[z.Kind]}
		if z.Kind == impl.ZoneBuilding {
			words = append(words, strconv.FormatInt(z.Storeys, 10)+"x"+strconv.FormatInt(z.Each, 10))
		}
		for _, c := range z.Corners {
			words = append(words, strconv.FormatInt(c.X, 10)+","+strconv.FormatInt(c.Y, 10))
		}
		text := impl.ZoneText(z)
		same(t, "text", text, strings.Join(words, " "))
		got, ok := impl.ReadZone(text)
		same(t, "read "+text, ok, true)
		same(t, "zone "+text, equalZones(got, z), true)
	}
}

func TestReadZoneOfOtherTexts(t *testing.T) {
	texts := []string{
		"", " ", "road", "air", "building", "building 3x30", "road ", "wood 0,0 1,0 0,1", "Road 0,0 1,0 0,1", "roads 0,0 1,0 0,1", "roa 0,0 1,0 0,1", "0,0 1,0 0,1", "2 0,0 1,0 0,1",
		"building 0,0 1,0 0,1", "building3x30 0,0 1,0 0,1", "building 3x30", "building 3x30 ", "building 3x 0,0 1,0 0,1", "building x30 0,0 1,0 0,1", "building 3 30 0,0 1,0 0,1",
		"building 3X30 0,0 1,0 0,1", "building 3x30x2 0,0 1,0 0,1", "building 3,30 0,0 1,0 0,1", "building 3x30 3x30 0,0 1,0 0,1", "road 1x30 0,0 1,0 0,1", "air 0x0 0,0 1,0 0,1",
		"building 3x300,0 1,0 0,1", "building 0x30 0,0 1,0 0,1", "building 61x20 0,0 1,0 0,1", "building 3x19 0,0 1,0 0,1", "building 3x61 0,0 1,0 0,1", "building 60x34 0,0 1,0 0,1",
		"building -3x30 0,0 1,0 0,1", "building 03x30 0,0 1,0 0,1", "building 3x030 0,0 1,0 0,1", "building +3x30 0,0 1,0 0,1", "building  3x30 0,0 1,0 0,1", "building 3x30  0,0 1,0 0,1",
		"building 3x 30 0,0 1,0 0,1", "building 3 x30 0,0 1,0 0,1", "road 0,0 0,1 1,0", "road 0,0 1,0", "road 0,0", "air 0,0 1,0", "road 0,0 10,0 20,0 0,10", "road 0,0 1,0 0,1 0,0",
		" road 0,0 1,0 0,1", "road 0,0 1,0 0,1 ", "road  0,0 1,0 0,1", "road 0,0  1,0 0,1", "road 0,0 1,0 0,1  ", "road\t0,0 1,0 0,1", "road 0,0 1,0\t0,1", "road 0,0 1,0 0,1\n", "road 0,0\n1,0 0,1",
		"road 00,0 1,0 0,1", "road 0,00 1,0 0,1", "road 0,0 01,0 0,1", "road 0,0 1,0 0,01", "road -0,0 1,0 0,1", "road 0,-0 1,0 0,1", "road 0,0 +1,0 0,1", "road 0,0 1,0 0,+1", "road 0,0 --1,0 0,1",
		"road 0,0 1-,0 0,1", "road 0,0 1-1,0 0,1", "road 0,0 1,0 0,1-", "road 0,0 1,0 0,", "road 0,0 1,0 0", "road 0,0 1,0 ,1", "road 0,0 1,0 ,", "road 0,0,0 1,0 0,1", "road 0,0 1,0 0,1,", "road 0,0,1,0 0,1",
		"road 0 0 1 0 0 1", "road 0, 0 1,0 0,1", "road 0 ,0 1,0 0,1", "road 0;0 1;0 0;1", "road 0.0 1.0 0.1", "road 0,0 1,0 0,1e1", "road 0,0 0x1,0 0,1", "road 0,0 1,0 0,1x", "road 0,0 1,0 0,1 x", "road 0,0 1,0 0,1 road",
		"road 0,0 10001,0 0,1", "road 0,-10001 1,0 0,1", "road 0,0 1,0 0,9999999999999999999", "road 0,0 1,0 0,18446744073709551617", "road -99999999999999999999,0 1,0 0,1", "road 0,0 1,0 0,1\x00",
		"road 0,0 1,0 0,\u0661", "road 0,0 1,0 0,\xb1", "\xff", "road \xff,0 1,0 0,1", "road\u00a00,0 1,0 0,1", "air air 0,0 1,0 0,1", "road building 0,0 1,0 0,1", "airroad 0,0 1,0 0,1", "none 0,0 1,0 0,1",
		"road" + strings.Repeat(" 1,1", 5000), strings.Repeat("road ", 5000), strings.Repeat(" ", 5000), "road" + strings.Repeat(" ", 5000), "road " + strings.Repeat("1", 5000), "road " + strings.Repeat("-", 5000) + ",0",
	}
	for _, s := range texts {
		got, ok := impl.ReadZone(s)
		same(t, "read "+strconv.Quote(s), ok, false)
		same(t, "zone of "+strconv.Quote(s), equalZones(got, impl.Zone{}) && len(got.Corners) == 0, true)
	}
	same(t, "12 corners", impl.ValidZone(road(twelve())), true)
	words := impl.ZoneText(road(twelve()))
	_, ok := impl.ReadZone(strings.Replace(words, " 40,0 ", " 20,-1 40,0 ", 1))
	same(t, "13 corners", ok, false)
	for _, bad := range badZones() {
		_, ok := impl.ReadZone(plainText(bad))
		same(t, "read "+plainText(bad), ok, false)
	}
}

// plainText writes zones that are not valid as ZoneText would.
func plainText(z impl.Zone) string {
	text := map[int64]string{1: "building", 2: "road", 3: "air"}[z.Kind]
	if z.Storeys != 0 || z.Each != 0 || z.Kind == impl.ZoneBuilding {
		text += " " + strconv.FormatInt(z.Storeys, 10) + "x" + strconv.FormatInt(z.Each, 10)
	}
	for _, c := range z.Corners {
		text += " " + strconv.FormatInt(c.X, 10) + "," + strconv.FormatInt(c.Y, 10)
	}
	return text
}

// Texts with one byte more, less or changed are read only if they are the text of the zone that is read.
func TestReadZoneByteByByte(t *testing.T) {
	read := 0
	check := func(s string) {
		z, ok := impl.ReadZone(s)
		if ok {
			read++
			same(t, "text of the zone that is read", impl.ZoneText(z), s)
		} else {
			same(t, "zone that is not read", equalZones(z, impl.Zone{}), true)
		}
	}
	for _, text := range []string{"building 3x30 0,0 100,0 0,100", "road 50,-50 60,-50 60,50 50,50", "air -3,-2 4,-1 0,5"} {
		for i := range len(text) + 1 {
			for b := range 256 {
				check(text[:i] + string([]byte{byte(b)}) + text[i:])
				if i < len(text) {
					check(text[:i] + string([]byte{byte(b)}) + text[i+1:])
				}
			}
			if i < len(text) {
				check(text[:i] + text[i+1:])
			}
		}
	}
	if read < 100 {
		t.Errorf("only %d texts were read", read)
	}
}

// spareZones returns a copy of a list with more zones and corners in unused capacity, and all of its memory.
func spareZones(list []impl.Zone) (part, whole []impl.Zone, corners [][]impl.Point) {
	whole = append(slices.Clone(list), road(box(1, 2, 3, 4)), impl.Zone{Kind: -7})
	for i := range whole {
		all := append(slices.Clone(whole[i].Corners), points(7, 8, 9, 10, -1, -2)...)
		whole[i].Corners = all[:len(whole[i].Corners)]
		corners = append(corners, all)
	}
	return whole[:len(list)], whole, corners
}

// zoneResults has the results of all functions of the chapter in one string.
func zoneResults(list []impl.Zone, c impl.Crane, a, b impl.Point, n int64) string {
	first, one := impl.FirstBlocking(list, a, b, n)
	text := numbersText([]int64{first}, one) + "; " + numbersText(impl.FreeJibDirections(c, list))
	for i, z := range list {
		height, one := impl.ZoneHeight(z)
		area, two := impl.DoubleAreaOf(z)
		where, three := impl.PlaceInZone(z, a)
		meets, four := impl.LineMeetsZone(z, a, b)
		load, five := impl.BlocksLoad(z, n)
		jib, six := impl.BlocksJib(z, n)
		text += "; " + numbersText([]int64{height, one, area, two, where, three, four, five, six}, int64(i))
		for _, ok := range []bool{meets, load, jib, impl.ValidZone(z), impl.SameZone(z, list[0])} {
			text += " " + strconv.FormatBool(ok)
		}
		got, ok := impl.ReadZone(impl.ZoneText(z))
		text += " " + impl.ZoneText(z) + " " + strconv.FormatBool(ok) + plainText(got)
	}
	return text
}

// Promise 1: no function changes a zone, a list or their spare memory, and equal arguments have equal results, whatever they are.
func TestPromise1Zones(t *testing.T) {
	good, bad := goodZones(), badZones()
	lists := [][]impl.Zone{nil, good[:10], good[:11], good[10:20], good, bad, {bad[5], good[0]}, {good[0], bad[5]}}
	for i := range good {
		lists = append(lists, good[i:i+1])
	}
	for i := range bad {
		lists = append(lists, bad[i:i+1])
	}
	cranes := []impl.Crane{crane("ada", 0, 0), crane("ada", 10000, 10000), {}, crane("ada", math.MinInt64, math.MaxInt64)}
	for k, list := range lists {
		part, whole, corners := spareZones(list)
		keptWhole, keptCorners := slices.Clone(whole), [][]impl.Point{}
		for _, all := range corners {
			keptCorners = append(keptCorners, slices.Clone(all))
		}
		for i, a := range somePoints {
			b, n := somePoints[(i*3+k)%len(somePoints)], edges[(i*7+k)%len(edges)]
			given := cranes[(i+k)%len(cranes)]
			kept := given
			given.Chart, _ = spare(given.Chart)
			same(t, "results twice", zoneResults(part, given, a, b, n), zoneResults(list, kept, a, b, n))
			same(t, "the crane", equalCranes(given, kept), true)
		}
		same(t, "the list and its spare memory", slices.EqualFunc(whole, keptWhole, equalZones), true)
		for i, all := range corners {
			same(t, "corners and their spare memory", slices.Equal(all, keptCorners[i]), true)
		}
	}
}

// Promise 1: corners that are read and directions are new each time.
func TestPromise1ZonesAreNew(t *testing.T) {
	text := impl.ZoneText(building(3, 30, twelve()))
	first, _ := impl.ReadZone(text)
	corners := first.Corners[:cap(first.Corners)]
	for i := range corners {
		corners[i] = impl.Point{X: -7, Y: -7}
	}
	again, ok := impl.ReadZone(text)
	same(t, "read again", ok && equalZones(again, building(3, 30, twelve())), true)
	list := []impl.Zone{air(box(300, -10, 310, 10))}
	free, _ := impl.FreeJibDirections(crane("ada", 0, 0), list)
	for i := range free[:cap(free)] {
		free[:cap(free)][i] = -7
	}
	free, _ = impl.FreeJibDirections(crane("ada", 0, 0), list)
	sameNumbers(t, "directions again", free, allDirections(0))
	same(t, "the zone that was given", equalZones(list[0], air(box(300, -10, 310, 10))), true)
}
