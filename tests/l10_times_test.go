package tests

import (
	"fmt"
	"math"
	"math/rand"
	"slices"
	"strconv"
	"testing"

	"loop.example/g00932/impl"
)

func speedsOf(slew, trolley, hoist, hook int64) impl.Speeds {
	return impl.Speeds{Slew: slew, Trolley: trolley, Hoist: hoist, Hook: hook}
}

// usual has the speeds of the given test of this stage.
func usual() impl.Speeds { return speedsOf(3, 8, 6, 30) }

// withSpeed returns the usual speeds, but for one of the four.
func withSpeed(i int, n int64) impl.Speeds {
	v := usual()
	*[]*int64{&v.Slew, &v.Trolley, &v.Hoist, &v.Hook}[i] = n
	return v
}

// goodSpeeds has each speed, and all of them, at 1 and at the greatest one.
func goodSpeeds() []impl.Speeds {
	list := []impl.Speeds{usual(), speedsOf(1, 1, 1, 1), speedsOf(600, 600, 600, 600)}
	for i := range 4 {
		for _, n := range []int64{1, 2, 599, 600} {
			list = append(list, withSpeed(i, n))
		}
	}
	return list
}

// badSpeeds has speeds that are not valid, each for one reason, and some for several.
func badSpeeds() []impl.Speeds {
	list := []impl.Speeds{{}, speedsOf(601, 601, 601, 601), speedsOf(-3, -8, -6, -30)}
	for i := range 4 {
		for _, n := range []int64{0, -1, 601, -600, math.MinInt64, math.MaxInt64, 1<<32 + 5} {
			list = append(list, withSpeed(i, n))
		}
	}
	return list
}

func randomSpeeds(r *rand.Rand) impl.Speeds {
	most := []int64{3, 40, 600}[r.Intn(3)]
	return speedsOf(1+r.Int63n(most), 1+r.Int63n(most), 1+r.Int63n(most), 1+r.Int63n(most))
}

func speedWords(v impl.Speeds) string {
	return "speeds " + numbersText([]int64{v.Slew, v.Trolley, v.Hoist, v.Hook}, 0)
}

// turnSteps looks for the other direction on both sides, so that it needs no remainder.
func turnSteps(from, to int64) int64 {
	n := int64(0)
	for walk(from, n) != to && walk(from, -n) != to {
		n++
	}
	return n
}

// secondsFor is the first second at whose end a way is gone.
func secondsFor(way, speed int64) int64 {
	n := way / speed
	for n*speed < way {
		n++
	}
	return n
}

// secondsBetween is the time of a move, by the tests' own directions and radii.
func secondsBetween(c impl.Crane, v impl.Speeds, from, to impl.Point) int64 {
	turning := turnSteps(directionFrom(c, from), directionFrom(c, to)) * v.Slew
	return max(turning, secondsFor(magnitude(wayTo(c.At, from)-wayTo(c.At, to)), v.Trolley))
}

// secondsOfLift is the time of a lift, part by part, or -1 if the crane can't do it.
func secondsOfLift(c impl.Crane, v impl.Speeds, l impl.Lift) int64 {
	if !able(c, l) {
		return -1
	}
	hoisting := secondsFor(l.Height+30, v.Hoist)
	return v.Hook + hoisting + secondsBetween(c, v, l.From, l.To) + hoisting + v.Hook
}

func TestTimeConstants(t *testing.T) { same(t, "MaxSpeed", impl.MaxSpeed, 600) }

func TestValidSpeeds(t *testing.T) {
	for _, v := range goodSpeeds() {
		same(t, speedWords(v), impl.ValidSpeeds(v), true)
	}
	for _, v := range badSpeeds() {
		same(t, speedWords(v), impl.ValidSpeeds(v), false)
	}
	for i := range 4 {
		for _, n := range append(edges, 599, 600, 601) {
			same(t, speedWords(withSpeed(i, n)), impl.ValidSpeeds(withSpeed(i, n)), within(n, 1, 600))
		}
	}
}

func TestSlewTimeAsTold(t *testing.T) {
	cases := []struct{ slew, from, to, want int64 }{
		{3, 0, 6, 18}, {3, 6, 0, 18}, {3, 5, 5, 0}, {3, 0, 0, 0}, {3, 23, 23, 0},
		// Half a circle, and one direction less or more.
		{3, 0, 12, 36}, {3, 12, 0, 36}, {3, 0, 11, 33}, {3, 0, 13, 33}, {3, 20, 8, 36}, {3, 20, 7, 33}, {3, 20, 9, 33},
		// Past the last direction.
		{3, 23, 0, 3}, {3, 0, 23, 3}, {3, 22, 3, 15}, {3, 3, 22, 15},
		{1, 0, 12, 12}, {1, 4, 3, 1}, {600, 0, 12, 7200}, {600, 23, 1, 1200}, {600, 7, 7, 0},
	}
	for _, x := range cases {
		got, c := impl.SlewTime(withSpeed(0, x.slew), x.from, x.to)
		same(t, fmt.Sprint(x), [2]int64{got, c}, [2]int64{x.want, impl.OK})
	}
}

func TestSlewTimeOfAllTurns(t *testing.T) {
	for from := range int64(24) {
		for to := range int64(24) {
			for _, v := range goodSpeeds() {
				got, c := impl.SlewTime(v, from, to)
				same(t, speedWords(v)+fmt.Sprint(" from ", from, " to ", to), [2]int64{got, c}, [2]int64{turnSteps(from, to) * v.Slew, impl.OK})
			}
		}
	}
	for _, from := range edges {
		for _, to := range edges {
			if !isDirection(from) || !isDirection(to) {
				got, c := impl.SlewTime(usual(), from, to)
				same(t, fmt.Sprint("from ", from, " to ", to), [2]int64{got, c}, [2]int64{0, impl.ErrRange})
			}
		}
	}
}

func TestTrolleyTimeAsTold(t *testing.T) {
	cases := []struct{ trolley, from, to, want int64 }{
		{8, 100, 200, 13}, {8, 200, 100, 13}, {8, 100, 196, 12}, {8, 196, 100, 12}, {8, 100, 197, 13}, {8, 100, 195, 12},
		{8, 5, 5, 0}, {8, 0, 0, 0}, {8, 30000, 30000, 0}, {8, 0, 1, 1}, {8, 1, 0, 1}, {8, 0, 8, 1}, {8, 0, 9, 2}, {8, 9, 0, 2},
		{1, 0, 30000, 30000}, {1, 30000, 0, 30000}, {600, 0, 30000, 50}, {600, 30000, 1, 50}, {600, 0, 1, 1}, {600, 29400, 30000, 1}, {600, 29399, 30000, 2},
		{7, 0, 30000, 4286}, {7, 30000, 0, 4286},
	}
	for _, x := range cases {
		got, c := impl.TrolleyTime(withSpeed(1, x.trolley), x.from, x.to)
		same(t, fmt.Sprint(x), [2]int64{got, c}, [2]int64{x.want, impl.OK})
	}
}

func TestTrolleyTimeOfManyRadii(t *testing.T) {
	radii := append(slices.Clone(edges), 2, 3, 600, 28285, 29999, 30000, 30001, -30000)
	for _, from := range radii {
		for _, to := range radii {
			for _, v := range goodSpeeds() {
				want := [2]int64{0, impl.ErrRange}
				if within(from, 0, 30000) && within(to, 0, 30000) {
					want = [2]int64{secondsFor(magnitude(from-to), v.Trolley), impl.OK}
				}
				got, c := impl.TrolleyTime(v, from, to)
				same(t, speedWords(v)+fmt.Sprint(" from ", from, " to ", to), [2]int64{got, c}, want)
			}
		}
	}
}

func TestHoistTime(t *testing.T) {
	cases := []struct{ hoist, height, want int64 }{
		{6, 130, 22}, {6, 132, 22}, {6, 133, 23}, {6, 0, 0}, {6, 1, 1}, {6, 6, 1}, {6, 7, 2}, {6, 2000, 334},
		{1, 2000, 2000}, {1, 1, 1}, {600, 2000, 4}, {600, 1800, 3}, {600, 1801, 4}, {600, 1, 1}, {600, 0, 0},
	}
	for _, x := range cases {
		got, c := impl.HoistTime(withSpeed(2, x.hoist), x.height)
		same(t, fmt.Sprint(x), [2]int64{got, c}, [2]int64{x.want, impl.OK})
	}
	for _, v := range goodSpeeds() {
		for _, height := range append(slices.Clone(edges), 1999, 2000, 2001) {
			want := [2]int64{0, impl.ErrRange}
			if within(height, 0, 2000) {
				want = [2]int64{secondsFor(height, v.Hoist), impl.OK}
			}
			got, c := impl.HoistTime(v, height)
			same(t, speedWords(v)+" height "+impl.Decimal(height), [2]int64{got, c}, want)
		}
	}
}

func TestMoveTimeAsTold(t *testing.T) {
	ada, moved := crane("ada", 0, 0), crane("ada", 50, -60)
	cases := []struct {
		c             impl.Crane
		slew, trolley int64
		from, to      impl.Point
		want          int64
	}{
		// Turning takes longer than the trolley, 18 to 13 seconds, and the other way round, 18 to 20; both begin at the same time.
		{ada, 3, 8, point(100, 0), point(0, 200), 18},
		{ada, 3, 5, point(100, 0), point(0, 200), 20},
		{ada, 3, 5, point(0, 200), point(100, 0), 20},
		// Both take 18 seconds; then one of them takes longer.
		{ada, 3, 5, point(100, 0), point(0, 190), 18},
		{ada, 3, 5, point(100, 0), point(0, 191), 19},
		{ada, 4, 5, point(100, 0), point(0, 190), 24},
		{ada, 3, 6, point(0, 0), point(0, 108), 18},
		// Only the jib moves, or only the trolley, or nothing.
		{ada, 3, 8, point(100, 0), point(-100, 0), 36},
		{ada, 3, 8, point(100, 0), point(0, -100), 18},
		{ada, 3, 8, point(100, 0), point(200, 0), 13},
		{ada, 3, 8, point(200, 0), point(100, 0), 13},
		{ada, 3, 8, point(70, 70), point(70, 70), 0},
		// At the place of the crane there is no direction, so that 0 is taken.
		{ada, 3, 8, point(0, 0), point(0, 0), 0},
		{ada, 3, 8, point(0, 0), point(40, 0), 5},
		{ada, 3, 8, point(0, 0), point(0, 40), 18},
		{ada, 3, 8, point(0, -40), point(0, 0), 18},
		{ada, 3, 8, point(-40, 0), point(0, 0), 36},
		{moved, 3, 8, point(50, -60), point(50, -20), 18},
		{moved, 3, 8, point(150, -60), point(50, 140), 18},
		{moved, 3, 5, point(150, -60), point(50, 140), 20},
		// Out of reach, and as far as places can be.
		{ada, 3, 8, point(301, 0), point(1001, 0), 88},
		{ada, 600, 600, point(10000, 0), point(-10000, 0), 7200},
		{crane("ada", 10000, 10000), 1, 1, point(10000, 10000), point(-10000, -10000), 28285},
		{crane("ada", -10000, -10000), 1, 600, point(10000, 10000), point(-10000, -10000), 48},
	}
	for i, x := range cases {
		got, c := impl.MoveTime(x.c, speedsOf(x.slew, x.trolley, 6, 30), x.from, x.to)
		same(t, "case "+strconv.Itoa(i), [2]int64{got, c}, [2]int64{x.want, impl.OK})
	}
}

// movePlaces has places in and out of reach of a crane, and its own one.
func movePlaces(r *rand.Rand, c impl.Crane) []impl.Point {
	return []impl.Point{c.At, placeNear(r, c), placeNear(r, c), point(c.At.X, max(-10000, c.At.Y-1)), randomPlace(r, 10000), point(-10000, 10000)}
}

func TestMoveTimeOfManyMoves(t *testing.T) {
	r := rand.New(rand.NewSource(100))
	seen := map[string]int{}
	for _, s := range workSites() {
		for _, c := range s.Cranes {
			v, places := randomSpeeds(r), movePlaces(r, c)
			for _, from := range places {
				for _, to := range places {
					what := craneWords(c) + " " + speedWords(v) + fmt.Sprint(from, to)
					got, code := impl.MoveTime(c, v, from, to)
					same(t, what, [2]int64{got, code}, [2]int64{secondsBetween(c, v, from, to), impl.OK})
					l := beam(1, 0, from, to)
					one, two, _ := impl.LiftDirections(c, l)
					near, far, _ := impl.LiftRadii(c, l)
					slew, _ := impl.SlewTime(v, one, two)
					trolley, _ := impl.TrolleyTime(v, near, far)
					same(t, "the longer one: "+what, got, max(slew, trolley))
					seen[strconv.FormatInt(sign(slew-trolley), 10)]++
				}
			}
		}
	}
	for _, kind := range []string{"-1", "0", "1"} {
		same(t, "moves of the kind "+kind+": "+strconv.Itoa(seen[kind]), seen[kind] >= 100, true)
	}
}

// timeCase has a lift of a crane and the times of the lift and of the job from a place, with their code.
type timeCase struct {
	c    impl.Crane
	v    impl.Speeds
	l    impl.Lift
	at   impl.Point
	want [3]int64
}

func checkTimes(t *testing.T, cases []timeCase) {
	t.Helper()
	for i, x := range cases {
		for _, l := range []impl.Lift{x.l, strangeAfter(x.l)} {
			lifting, one := impl.LiftTime(x.c, x.v, l)
			job, two := impl.JobTime(x.c, x.v, l, x.at)
			same(t, "case "+strconv.Itoa(i), [4]int64{lifting, one, job, two}, [4]int64{x.want[0], x.want[2], x.want[1], x.want[2]})
		}
	}
}

func TestLiftTimesAsTold(t *testing.T) {
	ada, v, near, up := crane("ada", 0, 0), usual(), point(100, 0), point(0, 200)
	checkTimes(t, []timeCase{
		// 60 seconds with the hook, twice 22 for 130 decimetres and 18 for the move; 18 to come to the load.
		{ada, v, beam(1500, 100, near, up), up, [3]int64{122, 140, impl.OK}},
		// The crane is at the load already.
		{ada, v, beam(1500, 100, near, up), near, [3]int64{122, 122, impl.OK}},
		// It only needs to turn, or only the trolley needs to go.
		{ada, v, beam(1500, 100, near, up), point(-100, 0), [3]int64{122, 158, impl.OK}},
		{ada, v, beam(1500, 100, near, up), point(0, 0), [3]int64{122, 135, impl.OK}},
		{ada, v, beam(1500, 100, near, up), point(300, 0), [3]int64{122, 147, impl.OK}},
		// It may come from out of reach.
		{ada, v, beam(1500, 100, near, up), point(-10000, 0), [3]int64{122, 1360, impl.OK}},
		// Without a move, and without a height: only the clearance is hoisted.
		{ada, v, beam(1500, 0, near, near), near, [3]int64{70, 70, impl.OK}},
		{ada, v, beam(1500, 0, near, up), near, [3]int64{88, 88, impl.OK}},
		{ada, v, beam(1500, 1, near, near), near, [3]int64{72, 72, impl.OK}},
		{ada, v, beam(1500, 6, near, near), near, [3]int64{72, 72, impl.OK}},
		{ada, v, beam(1500, 7, near, near), near, [3]int64{74, 74, impl.OK}},
		// From and to the place of the crane itself, where the direction is 0.
		{ada, v, beam(1500, 0, ada.At, up), ada.At, [3]int64{95, 95, impl.OK}},
		{ada, v, beam(1500, 0, up, ada.At), ada.At, [3]int64{95, 120, impl.OK}},
		{ada, v, beam(1500, 0, ada.At, ada.At), ada.At, [3]int64{70, 70, impl.OK}},
		{ada, speedsOf(1, 1, 1, 1), beam(1500, 370, near, up), up, [3]int64{902, 1002, impl.OK}},
		{ada, speedsOf(600, 600, 600, 600), beam(1500, 370, near, up), up, [3]int64{4802, 8402, impl.OK}},
		{ada, speedsOf(600, 600, 600, 600), beam(1500, 370, near, point(-100, 0)), up, [3]int64{8402, 12002, impl.OK}},
		// Each speed counts for its own part: 2 * 7, 2 * 26, 6 * 5 and 100 / 9.
		{ada, speedsOf(5, 9, 5, 7), beam(1500, 100, near, up), near, [3]int64{96, 96, impl.OK}},
		{ada, speedsOf(1, 9, 5, 7), beam(1500, 100, near, up), near, [3]int64{78, 78, impl.OK}},
		{tall("ada", 0, 2000, 300, 2000), speedsOf(1, 600, 1, 600), beam(1500, 1970, near, near), near, [3]int64{5200, 5200, impl.OK}},
	})
}

func TestLiftsThatACraneCantDo(t *testing.T) {
	ada, v, near, far := crane("ada", 0, 0), usual(), point(100, 0), point(0, -300)
	no := [3]int64{0, 0, impl.ErrState}
	checkTimes(t, []timeCase{
		{ada, v, beam(2001, 100, near, far), near, no},
		{ada, v, beam(2001, 100, far, near), near, no},
		{ada, v, beam(2000, 100, near, far), near, [3]int64{129, 129, impl.OK}},
		{ada, v, beam(2000, 371, near, far), near, no},
		{ada, v, beam(2000, 2000, near, far), near, no},
		{ada, v, beam(1, 0, near, point(301, 0)), near, no},
		{ada, v, beam(1, 0, point(301, 0), near), near, no},
		{ada, v, beam(1, 0, point(-10000, 10000), near), point(10000, 10000), no},
		{tall("ada", 0, 29, 300, 2000), v, beam(1, 0, near, near), near, no},
		{tall("ada", 0, 30, 300, 2000), v, beam(1, 0, near, near), near, [3]int64{70, 70, impl.OK}},
		{tall("ada", 0, 400, 300, 0), v, beam(1, 0, near, near), near, no},
	})
}

func TestTimesOfManyLifts(t *testing.T) {
	r := rand.New(rand.NewSource(101))
	seen := map[bool]int{}
	for range 5 {
		for _, s := range workSites() {
			v, l := randomSpeeds(r), randomWork(r, s)
			at := []impl.Point{l.From, l.To, s.Cranes[0].At, randomPlace(r, 10000)}[r.Intn(4)]
			for _, c := range s.Cranes {
				what := craneWords(c) + " " + speedWords(v) + " with " + liftWords(l)
				lifting, one := impl.LiftTime(c, v, l)
				job, two := impl.JobTime(c, v, l, at)
				want := [4]int64{0, impl.ErrState, 0, impl.ErrState}
				if seconds := secondsOfLift(c, v, l); seconds >= 0 {
					want = [4]int64{seconds, impl.OK, seconds + secondsBetween(c, v, at, l.From), impl.OK}
				}
				same(t, what, [4]int64{lifting, one, job, two}, want)
				seen[one == impl.OK]++
			}
		}
	}
	same(t, "lifts that can be done: "+strconv.Itoa(seen[true]), seen[true] >= 100, true)
	same(t, "lifts that can't be done: "+strconv.Itoa(seen[false]), seen[false] >= 100, true)
}

// timesText has the numbers of each row between bars.
func timesText(table [][]int64) string {
	text := "|"
	for _, row := range table {
		for i, seconds := range row {
			if i > 0 {
				text += " "
			}
			text += impl.Decimal(seconds)
		}
		text += "|"
	}
	return text
}

// named gives the lifts of a list names of their own.
func named(list ...impl.Lift) []impl.Lift {
	for k := range list {
		list[k].Name = "l" + strconv.Itoa(k)
	}
	return list
}

func TestTimeTablesAsTold(t *testing.T) {
	here, far := point(0, 0), point(300, 0)
	works := named(
		beam(3001, 100, here, here), beam(1000, 100, here, here), beam(1000, 371, here, here), beam(2000, 171, here, here),
		beam(2001, 100, here, here), beam(1000, 0, here, far), beam(1, 0, here, point(400, 0)),
	)
	// What a lift is after does not matter to its time, even if it is after one that no crane can do.
	works[1].After, works[3].After, works[6].After = []int64{0}, []int64{0, 1, 2}, []int64{5}
	two := site(crane("ada", 0, 0), tall("bo", 400, 430, 150, 4000, 250, 2500))
	cases := []struct {
		s    impl.Site
		list []impl.Lift
		want string
	}{
		// bo turns back by half a circle to get from {0 0} to {300 0}; cy does not reach it.
		{trio(), works, "|-1 -1 -1|104 104 104|-1 -1 -1|128 -1 128|-1 104 -1|108 106 -1|-1 -1 -1|"},
		{trio(), works[:1], "|-1 -1 -1|"},
		{trio(), nil, "|"},
		{trio(), []impl.Lift{}, "|"},
		{site(trio().Cranes[1]), works, "|-1|104|-1|-1|104|106|-1|"},
		{two, []impl.Lift{beam(1500, 100, point(100, 0), point(0, 200))}, "|122 -1|"},
		{two, named(beam(1500, 100, point(200, 0), point(200, 0)), beam(2001, 370, point(290, 0), point(200, 0))), "|104 104|206 206|"},
	}
	for i, x := range cases {
		table, c := impl.TimeTable(x.s, usual(), x.list)
		same(t, "case "+strconv.Itoa(i), timesText(table), x.want)
		same(t, "code of case "+strconv.Itoa(i), c, impl.OK)
	}
}

func TestFastestCraneAsTold(t *testing.T) {
	ada, here, right := crane("ada", 0, 0), point(0, 0), point(300, 0)
	cases := []struct {
		s    impl.Site
		l    impl.Lift
		want [3]int64
	}{
		{site(ada), beam(1500, 100, point(100, 0), point(0, 200)), [3]int64{0, 122, impl.OK}},
		{site(ada), beam(6001, 100, here, here), [3]int64{0, 0, impl.ErrNotFound}},
		{site(ada), beam(1, 371, here, here), [3]int64{0, 0, impl.ErrNotFound}},
		{site(ada), beam(1, 0, here, point(301, 0)), [3]int64{0, 0, impl.ErrNotFound}},
		// Several cranes need the same time: the first one of those that can do the lift.
		{trio(), beam(1000, 100, here, here), [3]int64{0, 104, impl.OK}},
		{trio(), beam(2000, 171, here, here), [3]int64{0, 128, impl.OK}},
		{trio(), beam(2001, 100, here, here), [3]int64{1, 104, impl.OK}},
		{site(trio().Cranes[1], trio().Cranes[0], trio().Cranes[2]), beam(2000, 171, here, here), [3]int64{1, 128, impl.OK}},
		// One is faster, wherever it is in the list.
		{trio(), beam(1000, 0, here, right), [3]int64{1, 106, impl.OK}},
		{site(trio().Cranes[1], trio().Cranes[0]), beam(1000, 0, here, right), [3]int64{0, 106, impl.OK}},
		{site(trio().Cranes[0], trio().Cranes[2], trio().Cranes[1]), beam(1000, 0, here, right), [3]int64{2, 106, impl.OK}},
		{trio(), beam(3001, 0, here, here), [3]int64{0, 0, impl.ErrNotFound}},
		{row(6, 20, 0), beam(1, 0, point(90, 0), point(110, 0)), [3]int64{0, 73, impl.OK}},
	}
	for i, x := range cases {
		for _, l := range []impl.Lift{x.l, strangeAfter(x.l)} {
			k, seconds, c := impl.FastestCrane(x.s, usual(), l)
			same(t, "case "+strconv.Itoa(i), [3]int64{k, seconds, c}, x.want)
		}
	}
}

// checkTable compares a table with the tests' own times, and the fastest crane with each row.
func checkTable(t *testing.T, s impl.Site, v impl.Speeds, list []impl.Lift, seen map[string]int) {
	t.Helper()
	table, c := impl.TimeTable(s, v, list)
	same(t, "code of TimeTable", c, impl.OK)
	same(t, "lifts of the table", len(table), len(list))
	for k, row := range table {
		want, fastest := []int64{}, [3]int64{0, 0, impl.ErrNotFound}
		for i, c := range s.Cranes {
			seconds := secondsOfLift(c, v, list[k])
			want = append(want, seconds)
			if seconds >= 0 && fastest[2] == impl.OK && seconds == fastest[1] {
				seen["equal"]++
			}
			if seconds >= 0 && (fastest[2] != impl.OK || seconds < fastest[1]) {
				fastest = [3]int64{int64(i), seconds, impl.OK}
			}
		}
		sameNumbers(t, speedWords(v)+" with "+liftWords(list[k]), row, want)
		i, seconds, c := impl.FastestCrane(s, v, list[k])
		same(t, "fastest crane for "+liftWords(list[k]), [3]int64{i, seconds, c}, fastest)
		switch {
		case fastest[2] != impl.OK:
			seen["none"]++
		case fastest[0] > 0:
			seen["later"]++
		}
	}
}

func TestTimeTablesOfManyLifts(t *testing.T) {
	r := rand.New(rand.NewSource(102))
	seen := map[string]int{}
	for range 10 {
		for _, s := range workSites() {
			list := []impl.Lift{}
			for range r.Intn(11) {
				list = append(list, randomWork(r, s))
			}
			for k := 1; k < len(list); k++ {
				list[k].After = []int64{r.Int63n(int64(k))}
			}
			checkTable(t, s, randomSpeeds(r), named(list...), seen)
		}
	}
	for _, kind := range []string{"equal", "none", "later"} {
		same(t, kind+": "+strconv.Itoa(seen[kind]), seen[kind] >= 50, true)
	}
}

func TestSlowerSpeedsAsTold(t *testing.T) {
	none := impl.Speeds{}
	cases := []struct {
		v       impl.Speeds
		percent int64
		want    impl.Speeds
		code    int64
	}{
		{usual(), 150, speedsOf(5, 5, 4, 45), impl.OK},
		{usual(), 100, usual(), impl.OK},
		{usual(), 101, speedsOf(4, 7, 5, 31), impl.OK},
		{usual(), 200, speedsOf(6, 4, 3, 60), impl.OK},
		{usual(), 600, speedsOf(18, 1, 1, 180), impl.OK},
		// Each one of the four that is not valid afterwards.
		{usual(), 601, none, impl.ErrFull},
		{usual(), 1000, none, impl.ErrFull},
		{speedsOf(60, 10, 10, 60), 1000, speedsOf(600, 1, 1, 600), impl.OK},
		{speedsOf(61, 10, 10, 60), 1000, none, impl.ErrFull},
		{speedsOf(60, 9, 10, 60), 1000, none, impl.ErrFull},
		{speedsOf(60, 10, 9, 60), 1000, none, impl.ErrFull},
		{speedsOf(60, 10, 10, 61), 1000, none, impl.ErrFull},
		{speedsOf(1, 600, 600, 1), 1000, speedsOf(10, 60, 60, 10), impl.OK},
		{speedsOf(600, 600, 600, 600), 100, speedsOf(600, 600, 600, 600), impl.OK},
		{speedsOf(600, 600, 600, 1), 101, none, impl.ErrFull},
		{speedsOf(1, 1, 600, 1), 101, none, impl.ErrFull},
		{speedsOf(1, 1, 1, 1), 100, speedsOf(1, 1, 1, 1), impl.OK},
		{speedsOf(594, 2, 2, 594), 101, speedsOf(600, 1, 1, 600), impl.OK},
		{speedsOf(595, 2, 2, 594), 101, none, impl.ErrFull},
		{speedsOf(200, 300, 301, 199), 300, speedsOf(600, 100, 100, 597), impl.OK},
		{speedsOf(1, 7, 600, 180), 333, speedsOf(4, 2, 180, 600), impl.OK},
		{speedsOf(1, 7, 600, 181), 333, none, impl.ErrFull},
		// Just outside.
		{usual(), 99, none, impl.ErrRange}, {usual(), 1001, none, impl.ErrRange}, {usual(), 0, none, impl.ErrRange}, {usual(), -100, none, impl.ErrRange},
		{usual(), math.MinInt64, none, impl.ErrRange}, {usual(), math.MaxInt64, none, impl.ErrRange}, {usual(), 1<<32 + 100, none, impl.ErrRange},
	}
	for _, x := range cases {
		got, c := impl.SlowerSpeeds(x.v, x.percent)
		same(t, speedWords(x.v)+" at "+impl.Decimal(x.percent), got, x.want)
		same(t, "code of "+speedWords(x.v)+" at "+impl.Decimal(x.percent), c, x.code)
	}
}

// isUp and isDown tell whether n is a quotient that is rounded up, or down.
func isUp(n, num, den int64) bool { return n*den >= num && (n-1)*den < num }

func isDown(n, num, den int64) bool { return n*den <= num && (n+1)*den > num }

func TestSlowerSpeedsOfManySpeeds(t *testing.T) {
	r := rand.New(rand.NewSource(103))
	full := 0
	for range 3000 {
		v := randomSpeeds(r)
		for _, percent := range append(slices.Clone(somePercents), 100+r.Int63n(901)) {
			what := speedWords(v) + " at " + impl.Decimal(percent)
			got, c := impl.SlowerSpeeds(v, percent)
			if c == impl.OK {
				same(t, what, isUp(got.Slew, v.Slew*percent, 100) && isUp(got.Hook, v.Hook*percent, 100), true)
				same(t, what, isDown(got.Trolley, v.Trolley*100, percent) && isDown(got.Hoist, v.Hoist*100, percent), true)
				same(t, what, impl.ValidSpeeds(got), true)
				continue
			}
			full++
			same(t, what, c, impl.ErrFull)
			same(t, what, got, impl.Speeds{})
			// At least one of the speeds must be the reason.
			fits := v.Slew*percent <= 60000 && v.Hook*percent <= 60000 && v.Trolley*100 >= percent && v.Hoist*100 >= percent
			same(t, what, fits, false)
		}
	}
	same(t, "speeds that are too slow: "+strconv.Itoa(full), full >= 1000, true)
}

func TestClockTextAsTold(t *testing.T) {
	cases := []struct {
		seconds int64
		want    string
	}{
		{0, "0:00:00"}, {1, "0:00:01"}, {9, "0:00:09"}, {10, "0:00:10"}, {59, "0:00:59"}, {60, "0:01:00"}, {61, "0:01:01"}, {599, "0:09:59"}, {600, "0:10:00"},
		{3599, "0:59:59"}, {3600, "1:00:00"}, {3601, "1:00:01"}, {3660, "1:01:00"}, {3725, "1:02:05"}, {35999, "9:59:59"}, {36000, "10:00:00"}, {36610, "10:10:10"},
		{86399, "23:59:59"}, {86400, "24:00:00"}, {359999, "99:59:59"}, {360000, "100:00:00"}, {999999999, "277777:46:39"}, {1000000000, "277777:46:40"},
	}
	for _, x := range cases {
		got, c := impl.ClockText(x.seconds)
		same(t, impl.Decimal(x.seconds), got, x.want)
		same(t, "code of "+impl.Decimal(x.seconds), c, impl.OK)
	}
	for _, seconds := range []int64{-1, -59, -3600, 1000000001, math.MinInt64, math.MaxInt64, 1<<32 + 5 - 1<<40} {
		got, c := impl.ClockText(seconds)
		same(t, impl.Decimal(seconds), got, "")
		same(t, "code of "+impl.Decimal(seconds), c, impl.ErrRange)
	}
}

func TestClockTextOfManySeconds(t *testing.T) {
	check := func(seconds int64) {
		got, c := impl.ClockText(seconds)
		same(t, impl.Decimal(seconds), got, fmt.Sprintf("%d:%02d:%02d", seconds/3600, seconds/60%60, seconds%60))
		same(t, "code of "+impl.Decimal(seconds), c, impl.OK)
	}
	for seconds := range int64(40000) {
		check(seconds)
		check(1000000000 - seconds)
		check(seconds * 24999)
	}
}

// Promise 10: no way around by another direction, radius or place is faster.
func TestPromise10NoWayAroundIsFaster(t *testing.T) {
	r := rand.New(rand.NewSource(104))
	for _, v := range goodSpeeds() {
		for n := range int64(24 * 24 * 24) {
			from, by, to := n%24, n/24%24, n/576
			whole, _ := impl.SlewTime(v, from, to)
			one, _ := impl.SlewTime(v, from, by)
			two, _ := impl.SlewTime(v, by, to)
			same(t, speedWords(v)+fmt.Sprint(" turn ", from, by, to), whole <= one+two, true)
		}
		for range 2000 {
			from, by, to := r.Int63n(30001), r.Int63n(30001), r.Int63n(30001)
			whole, _ := impl.TrolleyTime(v, from, to)
			one, _ := impl.TrolleyTime(v, from, by)
			two, _ := impl.TrolleyTime(v, by, to)
			same(t, speedWords(v)+fmt.Sprint(" radii ", from, by, to), whole <= one+two, true)
		}
	}
	for _, s := range workSites() {
		v, l := randomSpeeds(r), randomWork(r, s)
		for _, c := range s.Cranes {
			places := movePlaces(r, c)
			for n := range len(places) * len(places) * len(places) {
				from, by, to := places[n%len(places)], places[n/len(places)%len(places)], places[n/len(places)/len(places)]
				whole, _ := impl.MoveTime(c, v, from, to)
				one, _ := impl.MoveTime(c, v, from, by)
				two, _ := impl.MoveTime(c, v, by, to)
				back, _ := impl.MoveTime(c, v, to, from)
				same(t, speedWords(v)+fmt.Sprint(" places ", from, by, to), whole <= one+two, true)
				same(t, speedWords(v)+fmt.Sprint(" back ", from, to), back, whole)
				direct, _ := impl.JobTime(c, v, l, from)
				around, _ := impl.JobTime(c, v, l, by)
				same(t, speedWords(v)+fmt.Sprint(" job from ", from, by), direct <= one+around, true)
			}
		}
	}
}

// timesOf has the times of all functions for a crane and a lift; what is not told counts as 0 for all speeds.
func timesOf(s impl.Site, v impl.Speeds, l impl.Lift, n int64) []int64 {
	slew, _ := impl.SlewTime(v, n%24, n/24%24)
	trolley, _ := impl.TrolleyTime(v, n, 30000-n)
	hoist, _ := impl.HoistTime(v, n%2001)
	move, _ := impl.MoveTime(s.Cranes[0], v, l.From, l.To)
	lifting, _ := impl.LiftTime(s.Cranes[0], v, l)
	job, _ := impl.JobTime(s.Cranes[0], v, l, s.Cranes[0].At)
	table, _ := impl.TimeTable(s, v, []impl.Lift{l})
	_, least, _ := impl.FastestCrane(s, v, l)
	return append([]int64{slew, trolley, hoist, move, lifting, job, least}, slices.Concat(table...)...)
}

// Promise 10: nothing is faster with slower speeds, and nothing with a greater percent than with a lesser one.
func TestPromise10SlowerSpeedsAreNeverFaster(t *testing.T) {
	r := rand.New(rand.NewSource(105))
	compared, longer := 0, make([]int, 8)
	for range 30 {
		for _, s := range workSites() {
			v, l, n := randomSpeeds(r), randomWork(r, s), r.Int63n(30001)
			before := timesOf(s, v, l, n)
			for _, percent := range somePercents {
				slower, c := impl.SlowerSpeeds(v, percent)
				if c != impl.OK {
					break
				}
				times := timesOf(s, slower, l, n)
				same(t, "number of times", len(times), len(before))
				for i := range times {
					same(t, speedWords(v)+" at "+impl.Decimal(percent)+" with "+liftWords(l)+" faster", times[i] < before[i], false)
					if times[i] > before[i] {
						longer[min(i, 7)]++
					}
				}
				same(t, "nothing changes at 100", percent > 100 || slower == v && slices.Equal(times, before), true)
				before = times
				compared++
			}
		}
	}
	same(t, "compared: "+strconv.Itoa(compared), compared >= 1000, true)
	for i, n := range longer {
		same(t, "longer times of the kind "+strconv.Itoa(i)+": "+strconv.Itoa(n), n >= 50, true)
	}
}

// timeResults has the results of all functions with speeds in one string.
func timeResults(s impl.Site, c impl.Crane, v impl.Speeds, list []impl.Lift, l impl.Lift, a, b impl.Point, n, m int64) string {
	slew, one := impl.SlewTime(v, n, m)
	trolley, two := impl.TrolleyTime(v, n, m)
	hoist, three := impl.HoistTime(v, n)
	move, four := impl.MoveTime(c, v, a, b)
	lifting, five := impl.LiftTime(c, v, l)
	job, six := impl.JobTime(c, v, l, a)
	table, seven := impl.TimeTable(s, v, list)
	i, least, eight := impl.FastestCrane(s, v, l)
	slower, nine := impl.SlowerSpeeds(v, n)
	return fmt.Sprint(slew, one, ";", trolley, two, ";", hoist, three, ";", move, four, ";", lifting, five, ";", job, six, ";", timesText(table), seven, ";", i, least, eight, ";", slower, nine)
}

// allWrong is what timeResults has if everything is not valid.
const allWrong = "0 1;0 1;0 1;0 1;0 1;0 1;|1;0 0 1;{0 0 0 0} 1"

// Speeds that are not valid come before everything that is out of range or can't be done.
func TestTimesOfSpeedsThatAreNotValid(t *testing.T) {
	s, c, here := trio(), crane("ada", 0, 0), point(0, 0)
	lists := [][]impl.Lift{nil, {beam(1000, 100, here, here)}, free(10), {beam(50000, 2000, here, point(9000, 0))}}
	for _, v := range badSpeeds() {
		for i, n := range edges {
			m := edges[(i*5+3)%len(edges)]
			for _, list := range lists {
				l := beam(1000, 100, here, here)
				if len(list) > 0 {
					l = list[0]
				}
				text := timeResults(s, c, v, list, l, here, point(9000, -9000), n, m)
				same(t, speedWords(v), text, allWrong)
			}
		}
	}
}

func TestTimesOfWhatIsNotValid(t *testing.T) {
	here, plain, v := point(0, 0), beam(1000, 100, point(0, 0), point(0, 0)), usual()
	for _, bad := range badCranes() {
		// Neither lifts that no crane can do nor places that are out of reach come before what is not valid.
		for _, l := range []impl.Lift{plain, beam(50000, 2000, here, point(9000, 0)), {}} {
			move, one := impl.MoveTime(bad, v, here, point(9000, 0))
			lifting, two := impl.LiftTime(bad, v, l)
			job, three := impl.JobTime(bad, v, l, here)
			same(t, craneWords(bad), [6]int64{move, one, lifting, two, job, three}, [6]int64{0, 1, 0, 1, 0, 1})
		}
	}
	for _, l := range notPlain() {
		for _, c := range []impl.Crane{crane("ada", 0, 0), crane("ada", 9000, 0), tall("ada", 0, 1, 300, 0)} {
			lifting, one := impl.LiftTime(c, v, l)
			job, two := impl.JobTime(c, v, l, here)
			i, least, three := impl.FastestCrane(site(c), v, l)
			same(t, craneWords(c)+" with "+liftWords(l), [7]int64{lifting, one, job, two, i, least, three}, [7]int64{0, 1, 0, 1, 0, 0, 1})
		}
	}
	for _, s := range badSites() {
		for _, list := range [][]impl.Lift{nil, {plain}, {beam(50000, 2000, here, here)}, badLifts()[0]} {
			table, one := impl.TimeTable(s, v, list)
			i, least, two := impl.FastestCrane(s, v, append(list, plain)[0])
			same(t, "bad site", fmt.Sprint(timesText(table), one, i, least, two), "|1 0 0 1")
		}
	}
	for _, list := range badLifts() {
		for _, s := range []impl.Site{trio(), row(6, 11, 0), site(tall("ada", 0, 1, 300, 0))} {
			table, c := impl.TimeTable(s, v, list)
			same(t, "table of a bad list", fmt.Sprint(timesText(table), c), "|1")
		}
	}
}

func TestMovesToWhatIsNoPlace(t *testing.T) {
	l, heavy, c := beam(1000, 100, point(0, 0), point(0, 0)), beam(50000, 100, point(0, 0), point(0, 0)), crane("ada", 0, 0)
	for _, from := range somePoints {
		// A lift that the crane can't do does not come before a point that is no place.
		_, one := impl.JobTime(c, usual(), l, from)
		job, two := impl.JobTime(c, usual(), heavy, from)
		want := [3]int64{impl.OK, 0, impl.ErrState}
		if !isPlace(from) {
			want = [3]int64{impl.ErrInvalid, 0, impl.ErrInvalid}
		}
		same(t, fmt.Sprint("job from ", from), [3]int64{one, job, two}, want)
		for _, to := range somePoints {
			got, code := impl.MoveTime(c, usual(), from, to)
			if isPlace(from) && isPlace(to) {
				same(t, fmt.Sprint("code of ", from, to), code, impl.OK)
				continue
			}
			same(t, fmt.Sprint("move ", from, to), [2]int64{got, code}, [2]int64{0, impl.ErrInvalid})
		}
	}
}

// What lifts are after is looked at in a list, but not in one alone.
func TestTimesOfLiftsAfterOthers(t *testing.T) {
	lone := lift("a", 5, 0)
	_, one := impl.TimeTable(trio(), usual(), []impl.Lift{lone})
	_, _, two := impl.FastestCrane(trio(), usual(), lone)
	_, three := impl.LiftTime(trio().Cranes[0], usual(), lone)
	_, four := impl.JobTime(trio().Cranes[0], usual(), lone, lone.To)
	same(t, "codes", [4]int64{one, two, three, four}, [4]int64{impl.ErrInvalid, impl.OK, impl.OK, impl.OK})
}

// Promise 1: no function changes a crane, a site, a lift, a list or their spare memory, and equal arguments have equal results, whatever they are.
func TestPromise1Times(t *testing.T) {
	r := rand.New(rand.NewSource(106))
	lists := slices.DeleteFunc(append(someLifts(10)[:60], badLifts()...), func(list []impl.Lift) bool { return len(list) > 20 })
	allSpeeds, strange := append(goodSpeeds(), badSpeeds()...), notPlain()
	for i, s := range slices.Concat(workSites(), badSites()) {
		if len(s.Cranes) > 10 {
			s = site(s.Cranes[:10]...)
		}
		part, whole, charts := spareSite(s)
		kept, keptCharts := slices.Clone(whole), [][]impl.ChartStep{}
		for _, steps := range charts {
			keptCharts = append(keptCharts, slices.Clone(steps))
		}
		for k := range 12 {
			v, list, a, b := allSpeeds[(i*11+k)%len(allSpeeds)], lists[(i*7+k)%len(lists)], somePoints[(i+k)%len(somePoints)], somePoints[(i*3+k*5)%len(somePoints)]
			n, m := edges[(i+k*7)%len(edges)], edges[(i*5+k)%len(edges)]
			l := strange[(i*5+k)%len(strange)]
			if impl.ValidSite(s) && k%2 == 0 {
				l = strangeAfter(randomWork(r, s))
			}
			given, works, afters := spareLifts(append([]impl.Lift{l}, list...))
			keptWorks, keptAfters := copiedList(works), [][]int64{}
			for _, indices := range afters {
				keptAfters = append(keptAfters, slices.Clone(indices))
			}
			// A site without cranes still has the first one of its spare memory.
			one := timeResults(part, whole[0], v, given[1:], given[0], a, b, n, m)
			two := timeResults(copied(s), copied(impl.Site{Cranes: kept}).Cranes[0], v, copiedList(list), l, a, b, n, m)
			same(t, "results twice", one, two)
			sameLifts(t, "memory of the lifts", works, keptWorks)
			for j, indices := range afters {
				sameNumbers(t, "memory of an After", indices, keptAfters[j])
			}
		}
		sameSite(t, "memory of the site", impl.Site{Cranes: whole}, impl.Site{Cranes: kept})
		for j, steps := range charts {
			sameChart(t, "memory of a chart", steps, keptCharts[j])
		}
	}
}

// Promise 1: all numbers, also the ends of int64, are answered, and twice in the same way.
func TestPromise1TimesOfAnyNumbers(t *testing.T) {
	for _, n := range edges {
		for _, m := range edges {
			v := speedsOf(n, m, m, n)
			call := func() string {
				clock, c := impl.ClockText(n)
				text := timeResults(trio(), trio().Cranes[1], v, free(2), free(1)[0], point(n, m), point(m, n), n, m)
				return fmt.Sprint(text, clock, c, impl.ValidSpeeds(v))
			}
			same(t, "results twice", call(), call())
		}
	}
}

// Promise 1: rows of a table share no memory, and what is returned is new each time.
func TestPromise1TimeTablesAreNew(t *testing.T) {
	s, list := trio(), append(free(3), beam(50000, 5, point(0, 0), point(0, 0)))
	table, _ := impl.TimeTable(s, usual(), list)
	want := []string{}
	for _, row := range table {
		want = append(want, timesText([][]int64{row}))
	}
	same(t, "rows", len(want), 4)
	same(t, "last row", want[3], "|-1 -1 -1|")
	for k := range table {
		row := table[k][:cap(table[k])]
		for i := range row {
			row[i] = -7
		}
		want[k] = "|-7 -7 -7|"
		for j := range table {
			same(t, "row "+strconv.Itoa(j)+" after the row "+strconv.Itoa(k)+" was changed", timesText(table[j:j+1]), want[j])
		}
	}
	again, _ := impl.TimeTable(s, usual(), list)
	for k, l := range list {
		row := []int64{}
		for _, c := range s.Cranes {
			row = append(row, secondsOfLift(c, usual(), l))
		}
		sameNumbers(t, "row "+strconv.Itoa(k)+" again", again[k], row)
	}
	sameLifts(t, "the lifts that were given", list, append(free(3), beam(50000, 5, point(0, 0), point(0, 0))))
	sameSite(t, "the site that was given", s, trio())
}
