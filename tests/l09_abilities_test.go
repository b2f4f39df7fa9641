package tests

import (
	"math"
	"math/rand"
	"slices"
	"strconv"
	"testing"

	"loop.example/g00932/impl"
)

func point(x, y int64) impl.Point { return impl.Point{X: x, Y: y} }

// beam is a plain lift with a weight and a height between two places.
func beam(weight, height int64, from, to impl.Point) impl.Lift {
	return impl.Lift{Name: "beam", Weight: weight, From: from, To: to, Height: height, Deadline: 1000}
}

// tall returns a crane of the example with another name, place, height and chart.
func tall(name string, x, height int64, numbers ...int64) impl.Crane {
	return impl.Crane{Name: name, At: point(x, 0), Height: height, Jib: 300, Back: 100, Chart: chart(numbers...)}
}

// loadTo is the load of a crane at a place, by the chart's own numbers.
func loadTo(c impl.Crane, p impl.Point) (int64, bool) {
	radius := wayTo(c.At, p)
	if radius > last(c.Chart) {
		return 0, false
	}
	return lineLoad(c.Chart, radius), true
}

// loadBetween is the load of a crane for a lift.
func loadBetween(c impl.Crane, l impl.Lift) (int64, bool) {
	from, one := loadTo(c, l.From)
	to, two := loadTo(c, l.To)
	return min(from, to), one && two
}

func able(c impl.Crane, l impl.Lift) bool {
	load, ok := loadBetween(c, l)
	return ok && load >= l.Weight && c.Height-l.Height >= 30
}

// ablesOf has the indices of the cranes that can do a lift.
func ablesOf(s impl.Site, l impl.Lift) []int64 {
	list := []int64{}
	for i, c := range s.Cranes {
		if able(c, l) {
			list = append(list, int64(i))
		}
	}
	return list
}

func craneWords(c impl.Crane) string {
	return strconv.Quote(c.Name) + " " + numbersText([]int64{c.At.X, c.At.Y, c.Height, c.Jib, c.Back}, 0) + " " + impl.ChartText(c.Chart)
}

// workSites has sites whose cranes stand anywhere, and others whose cranes stand near to one another, so that several can do the same lift.
func workSites() []impl.Site {
	r := rand.New(rand.NewSource(9))
	list := someSites()
	for range 40 {
		s := row(6, 11+r.Int63n(20), r.Int63n(20))
		loads := []int64{2000 + r.Int63n(3), 2000 + r.Int63n(3), 5000}
		for i := range s.Cranes {
			s.Cranes[i].Height += r.Int63n(3)
			s.Cranes[i].Chart = chart(100, 6000, 290+r.Int63n(10), loads[r.Intn(3)])
		}
		list = append(list, s)
	}
	return list
}

// placeNear is a place at about a distance from a crane that matters to it.
func placeNear(r *rand.Rand, c impl.Crane) impl.Point {
	step := c.Chart[r.Intn(len(c.Chart))]
	radius := min(1000, max(0, step.Radius+r.Int63n(5)-2))
	p, _ := impl.PlaceAt(c.At, r.Int63n(24), radius)
	return p
}

// randomWork is a lift near a crane of a site, with a weight and a height about its limits, so that some cranes can do it and some can't.
func randomWork(r *rand.Rand, s impl.Site) impl.Lift {
	c := s.Cranes[r.Intn(len(s.Cranes))]
	l := beam(1+r.Int63n([]int64{3, 3000, 50000}[r.Intn(3)]), r.Int63n(2001), placeNear(r, c), placeNear(r, c))
	switch r.Intn(8) {
	case 0:
		l.From = c.At
	case 1:
		l.To = c.At
	case 2:
		l.To = l.From
	}
	if load, ok := loadBetween(c, l); ok && r.Intn(3) > 0 {
		l.Weight = min(50000, max(1, load+r.Int63n(3)-1))
	}
	if r.Intn(3) > 0 {
		l.Height = min(2000, max(0, c.Height-30+r.Int63n(3)-1))
	}
	return l
}

// strangeAfter returns a lift with an After that no list could have; a lift alone is not asked what it is after.
func strangeAfter(l impl.Lift) impl.Lift {
	l.After = []int64{5, 5, -1, math.MaxInt64}
	return l
}

// notPlain has lifts that are valid in no list.
func notPlain() []impl.Lift {
	list := []impl.Lift{{}}
	for _, change := range badFields() {
		l := beam(100, 5, point(100, 0), point(0, 200))
		change(&l)
		list = append(list, l, strangeAfter(l))
	}
	return list
}

func TestClearance(t *testing.T) { same(t, "Clearance", impl.Clearance, 30) }

func TestRadiiAndDirectionsAsTold(t *testing.T) {
	cases := []struct {
		c                  impl.Crane
		from, to           impl.Point
		near, far, one, in int64
	}{
		{crane("ada", 0, 0), point(100, 0), point(0, 200), 100, 200, 0, 6},
		{crane("ada", 0, 0), point(0, 200), point(100, 0), 200, 100, 6, 0},
		{crane("ada", 0, 0), point(-3, 4), point(-5, -5), 5, 8, 8, 15},
		{crane("ada", 50, -60), point(50, -61), point(-50, -60), 1, 100, 18, 12},
		// From or to the place of the crane itself: the radius is 0, and the direction is told as 0.
		{crane("ada", 0, 0), point(0, 0), point(0, -70), 0, 70, 0, 18},
		{crane("ada", 0, 0), point(0, -70), point(0, 0), 70, 0, 18, 0},
		{crane("ada", 20, -30), point(20, -30), point(20, -30), 0, 0, 0, 0},
		// Places need not be in reach.
		{crane("ada", 0, 0), point(301, 0), point(0, -5000), 301, 5000, 0, 18},
		{crane("ada", -10000, -10000), point(10000, 10000), point(-10000, -9999), 28285, 1, 3, 6},
		{crane("ada", 10000, 10000), point(-10000, 10000), point(-10000, -10000), 20000, 28285, 12, 15},
	}
	for i, x := range cases {
		for _, l := range []impl.Lift{beam(100, 5, x.from, x.to), beam(50000, 2000, x.from, x.to), strangeAfter(beam(1, 0, x.from, x.to))} {
			near, far, c := impl.LiftRadii(x.c, l)
			same(t, "radii of case "+strconv.Itoa(i), [3]int64{near, far, c}, [3]int64{x.near, x.far, impl.OK})
			one, in, c := impl.LiftDirections(x.c, l)
			same(t, "directions of case "+strconv.Itoa(i), [3]int64{one, in, c}, [3]int64{x.one, x.in, impl.OK})
		}
	}
}

// directionFrom is 0 for a place that is the crane's own.
func directionFrom(c impl.Crane, p impl.Point) int64 { return bestDirection(p.X-c.At.X, p.Y-c.At.Y) }

func TestRadiiAndDirectionsOfManyLifts(t *testing.T) {
	r := rand.New(rand.NewSource(90))
	for _, s := range workSites() {
		for range 30 {
			l := randomWork(r, s)
			for _, c := range s.Cranes {
				near, far, one := impl.LiftRadii(c, l)
				from, to, two := impl.LiftDirections(c, l)
				got := [6]int64{near, far, one, from, to, two}
				same(t, liftWords(l), got, [6]int64{wayTo(c.At, l.From), wayTo(c.At, l.To), impl.OK, directionFrom(c, l.From), directionFrom(c, l.To), impl.OK})
			}
		}
	}
}

// abilityCase has the margin and the percent with their codes.
type abilityCase struct {
	c            impl.Crane
	l            impl.Lift
	margin, used [2]int64
	able         bool
}

func checkAbilities(t *testing.T, cases []abilityCase) {
	t.Helper()
	for i, x := range cases {
		for _, l := range []impl.Lift{x.l, strangeAfter(x.l)} {
			margin, one := impl.LiftMargin(x.c, l)
			used, two := impl.UsedPercent(x.c, l)
			same(t, "margin of case "+strconv.Itoa(i), [2]int64{margin, one}, x.margin)
			same(t, "percent of case "+strconv.Itoa(i), [2]int64{used, two}, x.used)
			same(t, "ability of case "+strconv.Itoa(i), impl.CanLift(x.c, l), x.able)
		}
	}
}

func TestLoadsForLiftsAsTold(t *testing.T) {
	ada, near, far := crane("ada", 0, 0), point(100, 0), point(0, -300)
	checkAbilities(t, []abilityCase{
		{ada, beam(1500, 100, near, point(0, 200)), [2]int64{2500, 0}, [2]int64{38, 0}, true},
		{tall("ada", 0, 400, 300, 2000), beam(1500, 100, near, point(0, 200)), [2]int64{500, 0}, [2]int64{75, 0}, true},
		// The lesser load counts, on whichever side it is.
		{ada, beam(2000, 100, near, far), [2]int64{0, 0}, [2]int64{100, 0}, true},
		{ada, beam(2000, 100, far, near), [2]int64{0, 0}, [2]int64{100, 0}, true},
		{ada, beam(2001, 100, near, far), [2]int64{-1, 0}, [2]int64{101, 0}, false},
		{ada, beam(2001, 100, far, near), [2]int64{-1, 0}, [2]int64{101, 0}, false},
		{ada, beam(1999, 100, far, far), [2]int64{1, 0}, [2]int64{100, 0}, true},
		{ada, beam(1980, 100, far, far), [2]int64{20, 0}, [2]int64{99, 0}, true},
		{ada, beam(1981, 100, far, far), [2]int64{19, 0}, [2]int64{100, 0}, true},
		{ada, beam(1, 100, near, near), [2]int64{5999, 0}, [2]int64{1, 0}, true},
		{ada, beam(60, 100, near, near), [2]int64{5940, 0}, [2]int64{1, 0}, true},
		{ada, beam(61, 100, near, near), [2]int64{5939, 0}, [2]int64{2, 0}, true},
		{ada, beam(50000, 100, near, near), [2]int64{-44000, 0}, [2]int64{834, 0}, false},
		// From or to the place of the crane itself.
		{ada, beam(6000, 100, ada.At, ada.At), [2]int64{0, 0}, [2]int64{100, 0}, true},
		{ada, beam(6001, 100, ada.At, ada.At), [2]int64{-1, 0}, [2]int64{101, 0}, false},
		{ada, beam(2000, 100, ada.At, far), [2]int64{0, 0}, [2]int64{100, 0}, true},
		{ada, beam(2000, 100, far, ada.At), [2]int64{0, 0}, [2]int64{100, 0}, true},
		{ada, beam(2001, 100, ada.At, far), [2]int64{-1, 0}, [2]int64{101, 0}, false},
	})
}

func TestLiftsOutOfReachAsTold(t *testing.T) {
	ada, weak := crane("ada", 0, 0), tall("ada", 0, 400, 100, 6000, 200, 0, 300, 0)
	near, far, off := point(100, 0), point(0, -300), point(301, 0)
	none := [2]int64{0, impl.ErrNotFound}
	checkAbilities(t, []abilityCase{
		// Out of reach of one or of both places, or farther than any radius.
		{ada, beam(1, 100, off, near), none, none, false},
		{ada, beam(1, 100, near, off), none, none, false},
		{ada, beam(1, 100, off, off), none, none, false},
		{ada, beam(1, 100, near, point(1001, 0)), none, none, false},
		{ada, beam(1, 100, point(-10000, 10000), near), none, none, false},
		{ada, beam(1, 100, point(-180, 240), point(180, -240)), [2]int64{1999, 0}, [2]int64{1, 0}, true},
		{ada, beam(1, 100, point(-180, 241), point(180, -240)), none, none, false},
		{tall("ada", 0, 400, 100, 6000, 299, 2000), beam(1, 100, near, far), none, none, false},
		// A load of 0 is one, but not for any lift; a place out of reach comes first.
		{weak, beam(1, 100, point(200, 0), near), [2]int64{-1, 0}, [2]int64{0, impl.ErrState}, false},
		{weak, beam(700, 100, near, point(0, 250)), [2]int64{-700, 0}, [2]int64{0, impl.ErrState}, false},
		{weak, beam(50000, 2000, far, far), [2]int64{-50000, 0}, [2]int64{0, impl.ErrState}, false},
		{weak, beam(1, 100, far, off), none, none, false},
		{weak, beam(1, 100, off, far), none, none, false},
		{weak, beam(60, 100, near, point(199, 0)), [2]int64{0, 0}, [2]int64{100, 0}, true},
		{tall("ada", 0, 400, 300, 1), beam(50000, 100, near, near), [2]int64{-49999, 0}, [2]int64{5000000, 0}, false},
		{tall("ada", 0, 400, 300, 50000), beam(50000, 100, near, near), [2]int64{0, 0}, [2]int64{100, 0}, true},
	})
}

// The height does not matter to the margin.
func TestHeightsOfLiftsAsTold(t *testing.T) {
	ada, near, far := crane("ada", 0, 0), point(100, 0), point(0, -300)
	checkAbilities(t, []abilityCase{
		{ada, beam(1500, 370, near, far), [2]int64{500, 0}, [2]int64{75, 0}, true},
		{ada, beam(1500, 371, near, far), [2]int64{500, 0}, [2]int64{75, 0}, false},
		{ada, beam(1500, 2000, near, far), [2]int64{500, 0}, [2]int64{75, 0}, false},
		{ada, beam(1500, 0, near, far), [2]int64{500, 0}, [2]int64{75, 0}, true},
		{tall("ada", 0, 30, 300, 2000), beam(1500, 0, near, far), [2]int64{500, 0}, [2]int64{75, 0}, true},
		{tall("ada", 0, 30, 300, 2000), beam(1500, 1, near, far), [2]int64{500, 0}, [2]int64{75, 0}, false},
		{tall("ada", 0, 29, 300, 2000), beam(1500, 0, near, far), [2]int64{500, 0}, [2]int64{75, 0}, false},
		{tall("ada", 0, 1, 300, 2000), beam(1500, 0, near, far), [2]int64{500, 0}, [2]int64{75, 0}, false},
		{tall("ada", 0, 2000, 300, 2000), beam(1500, 1970, near, far), [2]int64{500, 0}, [2]int64{75, 0}, true},
		{tall("ada", 0, 2000, 300, 2000), beam(1500, 1971, near, far), [2]int64{500, 0}, [2]int64{75, 0}, false},
	})
}

// checkWork compares what is told about a crane and a lift with the chart's own numbers, and tells what kind of lift it is.
func checkWork(t *testing.T, c impl.Crane, l impl.Lift) string {
	t.Helper()
	what := craneWords(c) + " with " + liftWords(l)
	margin, one := impl.LiftMargin(c, l)
	used, two := impl.UsedPercent(c, l)
	same(t, "ability: "+what, impl.CanLift(c, l), able(c, l))
	load, ok := loadBetween(c, l)
	if !ok {
		same(t, "margin: "+what, [2]int64{margin, one}, [2]int64{0, impl.ErrNotFound})
		same(t, "percent: "+what, [2]int64{used, two}, [2]int64{0, impl.ErrNotFound})
		return "out of reach"
	}
	same(t, "margin: "+what, [2]int64{margin, one}, [2]int64{load - l.Weight, impl.OK})
	if load == 0 {
		same(t, "percent: "+what, [2]int64{used, two}, [2]int64{0, impl.ErrState})
		return "no load"
	}
	same(t, "code of percent: "+what, two, impl.OK)
	// The percent is the least number that is enough for the weight.
	same(t, "percent: "+what, used*load >= 100*l.Weight && (used-1)*load < 100*l.Weight, true)
	switch {
	case load == l.Weight-1:
		return "one too heavy"
	case load < l.Weight:
		return "too heavy"
	case c.Height == l.Height+29:
		return "one too high"
	case c.Height < l.Height+30:
		return "too high"
	case load == l.Weight && c.Height == l.Height+30:
		return "just done"
	}
	return "done"
}

func TestAbilitiesOfManyLifts(t *testing.T) {
	r := rand.New(rand.NewSource(91))
	seen := map[string]int{}
	for range 10 {
		for _, s := range workSites() {
			for range 10 {
				l := randomWork(r, s)
				if r.Intn(2) == 0 {
					l = strangeAfter(l)
				}
				for _, c := range s.Cranes {
					seen[checkWork(t, c, l)]++
				}
			}
		}
	}
	for _, kind := range []string{"out of reach", "no load", "one too heavy", "too heavy", "one too high", "too high", "just done", "done"} {
		same(t, kind+": "+strconv.Itoa(seen[kind]), seen[kind] >= 100, true)
	}
}

// trio has three cranes that all reach the place {0 0}: the second one is low, and the third one as strong as the first one.
func trio() impl.Site {
	return site(tall("ada", 0, 400, 300, 2000), tall("bo", 50, 200, 300, 3000), tall("cy", -50, 400, 300, 2000))
}

func TestChoiceOfCranesAsTold(t *testing.T) {
	here, right, left := point(0, 0), point(300, 0), point(-300, 0)
	equal := site(tall("ada", 0, 400, 300, 2000), tall("bo", 20, 400, 300, 2001), tall("cy", 40, 400, 300, 2001), tall("di", 60, 400, 300, 2000))
	cases := []struct {
		s     impl.Site
		l     impl.Lift
		ables []int64
		best  [2]int64
	}{
		{trio(), beam(1000, 100, here, here), []int64{0, 1, 2}, [2]int64{1, impl.OK}},
		{trio(), beam(2000, 100, here, here), []int64{0, 1, 2}, [2]int64{1, impl.OK}},
		// The strongest crane is too low: the first one of those with the same margin.
		{trio(), beam(2000, 171, here, here), []int64{0, 2}, [2]int64{0, impl.OK}},
		{trio(), beam(2000, 170, here, here), []int64{0, 1, 2}, [2]int64{1, impl.OK}},
		{trio(), beam(2000, 370, here, here), []int64{0, 2}, [2]int64{0, impl.OK}},
		{trio(), beam(2001, 100, here, here), []int64{1}, [2]int64{1, impl.OK}},
		{trio(), beam(3000, 100, here, here), []int64{1}, [2]int64{1, impl.OK}},
		// A crane that does not reach both places can't do the lift, however strong it is.
		{trio(), beam(1000, 100, here, left), []int64{0, 2}, [2]int64{0, impl.OK}},
		{trio(), beam(1000, 100, left, here), []int64{0, 2}, [2]int64{0, impl.OK}},
		{trio(), beam(1000, 100, point(-301, 0), here), []int64{2}, [2]int64{2, impl.OK}},
		{trio(), beam(1000, 100, right, here), []int64{0, 1}, [2]int64{1, impl.OK}},
		{trio(), beam(1000, 200, right, here), []int64{0}, [2]int64{0, impl.OK}},
		// Lifts that no crane can do: too heavy, too high, both, or in reach of none of them at both places.
		{trio(), beam(3001, 100, here, here), nil, [2]int64{0, impl.ErrNotFound}},
		{trio(), beam(1000, 371, here, here), nil, [2]int64{0, impl.ErrNotFound}},
		{trio(), beam(2001, 171, here, here), nil, [2]int64{0, impl.ErrNotFound}},
		{trio(), beam(1000, 100, point(310, 0), point(-310, 0)), nil, [2]int64{0, impl.ErrNotFound}},
		{trio(), beam(1, 0, point(9000, 0), here), nil, [2]int64{0, impl.ErrNotFound}},
		{equal, beam(2000, 100, here, here), []int64{0, 1, 2, 3}, [2]int64{1, impl.OK}},
		{equal, beam(2001, 100, here, here), []int64{1, 2}, [2]int64{1, impl.OK}},
		{equal, beam(1, 370, here, here), []int64{0, 1, 2, 3}, [2]int64{1, impl.OK}},
		{row(6, 20, 0), beam(100, 5, here, point(100, 0)), []int64{0, 1, 2, 3, 4, 5}, [2]int64{0, impl.OK}},
		// A site with one crane, whose margin may be 0.
		{site(crane("ada", 0, 0)), beam(6000, 370, here, here), []int64{0}, [2]int64{0, impl.OK}},
		{site(crane("ada", 0, 0)), beam(6001, 370, here, here), nil, [2]int64{0, impl.ErrNotFound}},
		{site(tall("ada", 0, 400, 300, 0)), beam(1, 100, here, here), nil, [2]int64{0, impl.ErrNotFound}},
	}
	for i, x := range cases {
		for _, l := range []impl.Lift{x.l, strangeAfter(x.l)} {
			ables, c := impl.AblesOf(x.s, l)
			sameNumbers(t, "cranes of case "+strconv.Itoa(i), ables, x.ables)
			same(t, "code of case "+strconv.Itoa(i), c, impl.OK)
			best, c := impl.BestCrane(x.s, l)
			same(t, "best crane of case "+strconv.Itoa(i), [2]int64{best, c}, x.best)
		}
		table, c := impl.AbilityTable(x.s, []impl.Lift{x.l})
		same(t, "code of the table of case "+strconv.Itoa(i), c, impl.OK)
		sameTable(t, "table of case "+strconv.Itoa(i), table, x.s, []impl.Lift{x.l})
		impossible, c := impl.ImpossibleLifts(x.s, []impl.Lift{x.l})
		same(t, "code of the impossible lifts of case "+strconv.Itoa(i), c, impl.OK)
		same(t, "impossible lifts of case "+strconv.Itoa(i), len(impossible) == 1, len(x.ables) == 0)
	}
}

// sameTable compares a table with the cranes that can do each lift.
func sameTable(t *testing.T, what string, table [][]bool, s impl.Site, list []impl.Lift) {
	t.Helper()
	same(t, "lifts of "+what, len(table), len(list))
	for k, row := range table {
		same(t, "cranes of "+what, len(row), len(s.Cranes))
		for i, told := range row {
			same(t, what+": "+strconv.Itoa(i)+" with "+liftWords(list[k]), told, able(s.Cranes[i], list[k]))
		}
	}
}

func TestTablesAsTold(t *testing.T) {
	here := point(0, 0)
	works := []impl.Lift{
		beam(3001, 100, here, here), beam(1000, 100, here, here), beam(1000, 371, here, here), beam(2000, 171, here, here),
		beam(2001, 100, here, here), beam(2001, 171, here, here), beam(1, 0, here, point(400, 0)),
	}
	for k := range works {
		works[k].Name = string(rune('a' + k))
	}
	// What a lift is after does not matter to the cranes, even if it is after one that no crane can do.
	works[1].After, works[3].After, works[6].After = []int64{0}, []int64{0, 1, 2}, []int64{5}
	cases := []struct {
		s          impl.Site
		list       []impl.Lift
		table      string
		impossible []int64
	}{
		{trio(), works, "... ### ... #.# .#. ... ... ", []int64{0, 2, 5, 6}},
		{trio(), works[:1], "... ", []int64{0}},
		{trio(), nil, "", nil},
		{trio(), []impl.Lift{}, "", nil},
		{site(trio().Cranes[1]), works, ". # . . # . . ", []int64{0, 2, 3, 5, 6}},
		{site(trio().Cranes[0]), nil, "", nil},
		{site(tall("ada", 0, 1, 1, 0)), works, ". . . . . . . ", []int64{0, 1, 2, 3, 4, 5, 6}},
		{site(tall("ada", 0, 2000, 300, 50000)), works[:6], "# # # # # # ", nil},
	}
	for i, x := range cases {
		table, c := impl.AbilityTable(x.s, x.list)
		same(t, "table of case "+strconv.Itoa(i), tableText(table), x.table)
		same(t, "code of case "+strconv.Itoa(i), c, impl.OK)
		impossible, c := impl.ImpossibleLifts(x.s, x.list)
		sameNumbers(t, "impossible lifts of case "+strconv.Itoa(i), impossible, x.impossible)
		same(t, "code of case "+strconv.Itoa(i), c, impl.OK)
	}
}

// tableText has a word for each row.
func tableText(table [][]bool) string {
	text := ""
	for _, row := range table {
		for _, told := range row {
			if told {
				text += "#"
			} else {
				text += "."
			}
		}
		text += " "
	}
	return text
}

// Promise 9: cranes that are told to be able to do a lift can do it, and no other ones can.
func TestPromise9AbleCranes(t *testing.T) {
	r := rand.New(rand.NewSource(92))
	seen := map[string]int{}
	for range 10 {
		for _, s := range workSites() {
			list := []impl.Lift{}
			for k := range int64(r.Intn(11)) {
				l := randomWork(r, s)
				l.Name = "l" + impl.Decimal(k)
				if k > 0 {
					l.After = []int64{r.Int63n(k)}
				}
				list = append(list, l)
			}
			table, c := impl.AbilityTable(s, list)
			same(t, "code of the table", c, impl.OK)
			sameTable(t, "table", table, s, list)
			want := []int64{}
			for k, l := range list {
				ables := ablesOf(s, l)
				got, c := impl.AblesOf(s, l)
				sameNumbers(t, "cranes for "+liftWords(l), got, ables)
				same(t, "code of AblesOf", c, impl.OK)
				checkBest(t, s, l, ables)
				if len(ables) == 0 {
					want = append(want, int64(k))
				}
				seen[strconv.Itoa(min(3, len(ables)))+" cranes"]++
			}
			impossible, c := impl.ImpossibleLifts(s, list)
			sameNumbers(t, "impossible lifts", impossible, want)
			same(t, "code of ImpossibleLifts", c, impl.OK)
		}
	}
	for _, kind := range []string{"0 cranes", "1 cranes", "2 cranes", "3 cranes"} {
		same(t, kind+": "+strconv.Itoa(seen[kind]), seen[kind] >= 20, true)
	}
}

// checkBest compares the best crane with all that can do the lift.
func checkBest(t *testing.T, s impl.Site, l impl.Lift, ables []int64) {
	t.Helper()
	best, c := impl.BestCrane(s, l)
	if len(ables) == 0 {
		same(t, "best crane of none", [2]int64{best, c}, [2]int64{0, impl.ErrNotFound})
		return
	}
	same(t, "code of BestCrane", c, impl.OK)
	if !slices.Contains(ables, best) {
		t.Errorf("the crane %d can't do %s", best, liftWords(l))
		return
	}
	most, _ := loadBetween(s.Cranes[best], l)
	for _, i := range ables {
		load, _ := loadBetween(s.Cranes[i], l)
		same(t, "a better crane for "+liftWords(l), load > most || load == most && i < best, false)
	}
}

// Promise 9, by the program's own functions: no lift exceeds the chart at its places, or comes too near to the crane's height.
func TestPromise9AbleCranesHaveTheLoad(t *testing.T) {
	r := rand.New(rand.NewSource(93))
	done := 0
	for range 10 {
		for _, s := range workSites() {
			l := randomWork(r, s)
			ables, _ := impl.AblesOf(s, l)
			for i, c := range s.Cranes {
				from, one := impl.LoadAtPlace(c, l.From)
				to, two := impl.LoadAtPlace(c, l.To)
				want := one == impl.OK && two == impl.OK && l.Weight <= from && l.Weight <= to && l.Height+30 <= c.Height
				same(t, "CanLift of "+liftWords(l), impl.CanLift(c, l), want)
				same(t, "AblesOf of "+liftWords(l), slices.Contains(ables, int64(i)), want)
				if want {
					done++
					margin, _ := impl.LiftMargin(c, l)
					used, _ := impl.UsedPercent(c, l)
					same(t, "margin and percent", margin >= 0 && within(used, 1, 100), true)
				}
			}
		}
	}
	same(t, "enough lifts can be done", done >= 100, true)
}

func TestHeaviestAtAsTold(t *testing.T) {
	equal := site(tall("ada", 0, 400, 300, 2000), tall("bo", 20, 400, 300, 2001), tall("cy", 40, 400, 300, 2001))
	zeros := site(tall("ada", 0, 400, 300, 0), tall("bo", 100, 400, 300, 0))
	cases := []struct {
		s    impl.Site
		p    impl.Point
		want [3]int64
	}{
		// The height of a crane does not matter.
		{trio(), point(0, 0), [3]int64{1, 3000, impl.OK}},
		{trio(), point(-250, 0), [3]int64{1, 3000, impl.OK}},
		{trio(), point(-251, 0), [3]int64{0, 2000, impl.OK}},
		{trio(), point(-301, 0), [3]int64{2, 2000, impl.OK}},
		{trio(), point(-350, 0), [3]int64{2, 2000, impl.OK}},
		{trio(), point(-351, 0), [3]int64{0, 0, impl.ErrNotFound}},
		{trio(), point(10000, -10000), [3]int64{0, 0, impl.ErrNotFound}},
		{equal, point(0, 0), [3]int64{1, 2001, impl.OK}},
		{equal, point(-290, 0), [3]int64{0, 2000, impl.OK}},
		{equal, point(-280, 0), [3]int64{1, 2001, impl.OK}},
		{equal, point(340, 0), [3]int64{2, 2001, impl.OK}},
		// A load of 0 is one.
		{zeros, point(50, 0), [3]int64{0, 0, impl.OK}},
		{zeros, point(400, 0), [3]int64{1, 0, impl.OK}},
		{zeros, point(401, 0), [3]int64{0, 0, impl.ErrNotFound}},
		{site(crane("ada", 0, 0)), point(0, 0), [3]int64{0, 6000, impl.OK}},
		{site(crane("ada", 0, 0)), point(0, 300), [3]int64{0, 2000, impl.OK}},
		{site(crane("ada", 0, 0)), point(1, 300), [3]int64{0, 0, impl.ErrNotFound}},
		{row(6, 20, 0), point(50, 0), [3]int64{0, 6000, impl.OK}},
		{row(6, 20, 0), point(200, 0), [3]int64{5, 6000, impl.OK}},
		{row(6, 0, 300), point(0, 900), [3]int64{3, 6000, impl.OK}},
	}
	for i, x := range cases {
		k, load, c := impl.HeaviestAt(x.s, x.p)
		same(t, "case "+strconv.Itoa(i), [3]int64{k, load, c}, x.want)
	}
}

func TestHeaviestAtManyPlaces(t *testing.T) {
	r := rand.New(rand.NewSource(94))
	for _, s := range workSites() {
		for range 100 {
			p := placeNear(r, s.Cranes[r.Intn(len(s.Cranes))])
			want := [3]int64{0, 0, impl.ErrNotFound}
			for i, c := range s.Cranes {
				if load, ok := loadTo(c, p); ok && (want[2] != impl.OK || load > want[1]) {
					want = [3]int64{int64(i), load, impl.OK}
				}
			}
			k, load, c := impl.HeaviestAt(s, p)
			same(t, "heaviest crane", [3]int64{k, load, c}, want)
		}
	}
}

// abilityResults has the results of all functions with a crane in one list.
func abilityResults(c impl.Crane, l impl.Lift) []int64 {
	near, far, one := impl.LiftRadii(c, l)
	from, to, two := impl.LiftDirections(c, l)
	margin, three := impl.LiftMargin(c, l)
	used, four := impl.UsedPercent(c, l)
	able := int64(0)
	if impl.CanLift(c, l) {
		able = 1
	}
	return []int64{one, two, three, four, near, far, from, to, margin, used, able}
}

// siteResults has the results of all functions with a site in one string; those that fail have nothing but their code.
func siteResults(s impl.Site, l impl.Lift, list []impl.Lift, p impl.Point) string {
	text := numbersText(impl.AblesOf(s, l)) + "; "
	best, c := impl.BestCrane(s, l)
	text += numbersText([]int64{best}, c) + "; "
	table, c := impl.AbilityTable(s, list)
	text += impl.Decimal(c) + " " + tableText(table) + "; " + numbersText(impl.ImpossibleLifts(s, list)) + "; "
	i, load, c := impl.HeaviestAt(s, p)
	return text + numbersText([]int64{i, load}, c)
}

func TestAbilitiesOfWhatIsNotValid(t *testing.T) {
	wrong := []int64{impl.ErrInvalid, impl.ErrInvalid, impl.ErrInvalid, impl.ErrInvalid, 0, 0, 0, 0, 0, 0, 0}
	// Places out of reach and a load of 0 are not told before what is not valid.
	plain := []impl.Lift{beam(100, 5, point(100, 0), point(0, 200)), beam(100, 2000, point(9000, 0), point(0, 200)), strangeAfter(beam(1, 0, point(0, 0), point(0, 0)))}
	cranes := []impl.Crane{crane("ada", 0, 0), crane("ada", 9000, 0), tall("ada", 0, 400, 300, 0)}
	for _, c := range badCranes() {
		for _, l := range slices.Concat(plain, notPlain()) {
			sameNumbers(t, craneWords(c)+" with "+liftWords(l), abilityResults(c, l), wrong)
		}
	}
	for _, l := range notPlain() {
		for _, c := range cranes {
			sameNumbers(t, craneWords(c)+" with "+liftWords(l), abilityResults(c, l), wrong)
			ables, one := impl.AblesOf(site(c), l)
			best, two := impl.BestCrane(site(c), l)
			same(t, "cranes for "+liftWords(l), numbersText(ables, one), "1")
			same(t, "best crane for "+liftWords(l), [2]int64{best, two}, [2]int64{0, impl.ErrInvalid})
		}
	}
	for _, s := range badSites() {
		for _, l := range plain {
			same(t, "results of a bad site", siteResults(s, l, []impl.Lift{plain[0]}, point(1, 2)), "1; 1 0; 1 ; 1; 1 0 0")
			same(t, "results of a bad site without lifts", siteResults(s, l, nil, point(1, 2)), "1; 1 0; 1 ; 1; 1 0 0")
		}
	}
}

func TestListsAndPlacesThatAreNotValid(t *testing.T) {
	for _, s := range append(goodSites(), badSites()[:9]...) {
		for _, list := range badLifts() {
			table, c := impl.AbilityTable(s, list)
			same(t, "code of the table", c, impl.ErrInvalid)
			same(t, "table beside an error", len(table), 0)
			got, c := impl.ImpossibleLifts(s, list)
			same(t, "impossible lifts beside an error", numbersText(got, c), "1")
		}
		for _, p := range somePoints {
			if isPlace(p) && impl.ValidSite(s) {
				continue
			}
			i, load, c := impl.HeaviestAt(s, p)
			same(t, "heaviest crane beside an error", [3]int64{i, load, c}, [3]int64{0, 0, impl.ErrInvalid})
		}
	}
	// What lifts are after is looked at in a list, but not in one alone.
	lone := lift("a", 5, 0)
	_, one := impl.AbilityTable(trio(), []impl.Lift{lone})
	_, two := impl.ImpossibleLifts(trio(), []impl.Lift{lone})
	_, three := impl.AblesOf(trio(), lone)
	_, four := impl.BestCrane(trio(), lone)
	same(t, "codes", [4]int64{one, two, three, four}, [4]int64{impl.ErrInvalid, impl.ErrInvalid, impl.OK, impl.OK})
}

// Promise 1: no function changes a crane, a site, a lift, a list or their spare memory, and equal arguments have equal results, whatever they are.
func TestPromise1Abilities(t *testing.T) {
	r := rand.New(rand.NewSource(95))
	lifts := append(notPlain(), beam(100, 5, point(100, 0), point(0, 200)), strangeAfter(beam(5000, 5, point(20, -30), point(0, 20))))
	lists := slices.DeleteFunc(append(someLifts(10)[:60], badLifts()...), func(list []impl.Lift) bool { return len(list) > 20 })
	for i, s := range slices.Concat(workSites(), badSites()) {
		if len(s.Cranes) > 10 {
			s = site(s.Cranes[:10]...)
		}
		part, whole, charts := spareSite(s)
		kept, keptCharts := slices.Clone(whole), [][]impl.ChartStep{}
		for _, steps := range charts {
			keptCharts = append(keptCharts, slices.Clone(steps))
		}
		for k := range 12 {
			l, list, p := lifts[(i*5+k)%len(lifts)], lists[(i*7+k)%len(lists)], somePoints[(i+k)%len(somePoints)]
			if len(s.Cranes) > 0 && impl.ValidSite(s) && k%2 == 0 {
				l = randomWork(r, s)
			}
			given, works, afters := spareLifts(append([]impl.Lift{l}, list...))
			keptWorks, keptAfters := copiedList(works), [][]int64{}
			for _, indices := range afters {
				keptAfters = append(keptAfters, slices.Clone(indices))
			}
			same(t, "results twice", siteResults(part, given[0], given[1:], p), siteResults(copied(s), l, copiedList(list), p))
			for j, c := range part.Cranes {
				sameNumbers(t, "results twice", abilityResults(c, given[0]), abilityResults(copied(s).Cranes[j], l))
			}
			sameLifts(t, "memory of the lifts", works, keptWorks)
			for j, indices := range afters {
				sameNumbers(t, "memory of an After", indices, keptAfters[j])
			}
		}
		sameSite(t, "memory of the site", impl.Site{Cranes: whole}, impl.Site{Cranes: kept})
		for j, steps := range charts {
			sameChart(t, "memory of a chart", steps, keptCharts[j])
		}
	}
}

// Promise 1: rows of a table share no memory, and what is returned is new each time.
func TestPromise1AbilitiesAreNew(t *testing.T) {
	s, list := trio(), append(free(4), beam(50000, 5, point(0, 0), point(0, 0)))
	want := "### ### ### ### ... "
	table, _ := impl.AbilityTable(s, list)
	same(t, "table", tableText(table), want)
	for k := range table {
		row := table[k][:cap(table[k])]
		for i := range row {
			row[i] = !row[i]
		}
		words := []byte(want)
		for i := range 3 * (k + 1) {
			// Each row has three cranes and a blank behind it.
			words[i+i/3] ^= '#' ^ '.'
		}
		same(t, "table after a row was changed", tableText(table), string(words))
	}
	again, _ := impl.AbilityTable(s, list)
	same(t, "table again", tableText(again), want)
	for i, call := range []func() []int64{
		func() []int64 { got, _ := impl.AblesOf(s, list[0]); return got },
		func() []int64 { got, _ := impl.ImpossibleLifts(s, list); return got },
	} {
		first := call()
		kept := slices.Clone(first)
		for j := range first[:cap(first)] {
			first[:cap(first)][j] = -7
		}
		sameNumbers(t, "call "+strconv.Itoa(i)+" again", call(), kept)
	}
	sameLifts(t, "the lifts that were given", list, append(free(4), beam(50000, 5, point(0, 0), point(0, 0))))
	sameSite(t, "the site that was given", s, trio())
}
