package tests

import (
	"math"
	"math/big"
	"math/rand"
	"slices"
	"strconv"
	"testing"

	"loop.example/g00932/impl"
)

// crane has the values of the document's example, but for its name and place.
func crane(name string, x, y int64) impl.Crane {
	return impl.Crane{Name: name, At: impl.Point{X: x, Y: y}, Height: 400, Jib: 300, Back: 100, Chart: chart(100, 6000, 300, 2000)}
}

// changed returns a crane of the example after a change.
func changed(change func(c *impl.Crane)) impl.Crane {
	c := crane("ada", 20, -30)
	change(&c)
	return c
}

func withJib(jib, back int64, list []impl.ChartStep) impl.Crane {
	return changed(func(c *impl.Crane) { c.Jib, c.Back, c.Chart = jib, back, list })
}

func site(cranes ...impl.Crane) impl.Site { return impl.Site{Cranes: cranes} }

// row is a site of n cranes with the same way between them.
func row(n int, x, y int64) impl.Site {
	s := impl.Site{}
	for i := range int64(n) {
		s.Cranes = append(s.Cranes, crane("c"+strconv.FormatInt(i, 10), i*x, i*y))
	}
	return s
}

// goodCranes has names, places, heights and lengths at their limits.
func goodCranes() []impl.Crane {
	return []impl.Crane{
		crane("ada", 0, 0), crane("a", 10000, 10000), crane("a-2-b3456789", -10000, -10000), crane("z-", 10000, -10000),
		changed(func(c *impl.Crane) { c.Height = 1 }), changed(func(c *impl.Crane) { c.Height = 2000 }),
		withJib(1, 0, chart(1, 5)), withJib(1, 1, chart(1, 0)), withJib(1000, 0, chart(1000, 50000)), withJib(1000, 1000, chart(1, 7)),
		withJib(300, 0, chart(300, 7)), withJib(300, 300, chart(299, 7)), withJib(300, 299, stairs(20, 15, 15, 9000, 450)),
		withJib(999, 1, stairs(20, 49, 50, 7777, 37)), withJib(250, 40, chart(249, 1, 250, 1)),
	}
}

// badCranes has cranes that are not valid, each for one reason.
func badCranes() []impl.Crane {
	list := []impl.Crane{
		{}, crane("", 0, 0), crane("Ada", 0, 0), crane("3a", 0, 0), crane("a234567890123", 0, 0), crane("a b", 0, 0), crane("\xff", 0, 0),
		crane("ada", 10001, 0), crane("ada", -10001, 0), crane("ada", 0, 10001), crane("ada", 0, -10001), crane("ada", math.MinInt64, math.MaxInt64),
		withJib(0, 0, chart(1, 5)), withJib(1001, 5, chart(1, 5)), withJib(-300, -300, chart(1, 5)), withJib(math.MaxInt64, 5, chart(1, 5)),
		withJib(300, -1, chart(1, 5)), withJib(300, 301, chart(1, 5)), withJib(300, math.MinInt64, chart(1, 5)), withJib(300, math.MaxInt64, chart(1, 5)),
		withJib(299, 5, chart(100, 6, 300, 2)), withJib(1, 0, chart(2, 5)), withJib(999, 0, chart(1000, 5)),
	}
	for _, height := range []int64{0, -1, 2001, math.MinInt64, math.MaxInt64} {
		list = append(list, changed(func(c *impl.Crane) { c.Height = height }))
	}
	for _, bad := range badCharts() {
		list = append(list, withJib(1000, 0, bad))
	}
	return list
}

// goodSites has sites of 1 to 6 cranes; some are just far enough apart, or share a chart.
func goodSites() []impl.Site {
	shared := chart(1, 50000, 300, 0)
	list := []impl.Site{
		site(crane("ada", 0, 0)), site(crane("ada", 0, 0), crane("bo", 11, 0)), site(crane("ada", 3, 4), crane("ad", 3, 15)),
		site(crane("ada", 0, 0), crane("bo", 10, 1), crane("cy", 1, -10)), site(crane("ada", 0, 0), crane("bo", -7, 8), crane("cy", 7, -8)),
		site(crane("ada", -10000, -10000), crane("bo", 10000, 10000)), row(6, 11, 0), row(6, 0, 2000), row(5, -600, 0), row(6, 300, -300), row(3, 360, 480),
		site(changed(func(c *impl.Crane) { c.Chart = shared }), changed(func(c *impl.Crane) { c.Name, c.At.X, c.Chart = "bo", 400, shared })),
	}
	for _, c := range goodCranes() {
		list = append(list, site(c))
	}
	return list
}

// badSites has sites that are not valid, each for one reason.
func badSites() []impl.Site {
	list := []impl.Site{
		{}, {Cranes: []impl.Crane{}}, row(7, 500, 0), row(8, 0, -20), row(2, 10, 0), row(2, 6, 8), row(6, 0, 10), row(2, 0, 0),
		site(crane("ada", 0, 0), crane("ada", 500, 0)), site(crane("ada", 0, 0), crane("bo", 500, 0), crane("cy", 900, 0), crane("bo", 0, 500)),
		site(crane("ada", 0, 0), crane("bo", 500, 0), crane("cy", 1, 9)), site(crane("ada", 0, 0), crane("bo", 500, 0), crane("cy", 494, -8)),
		{Cranes: make([]impl.Crane, 6)}, {Cranes: slices.Repeat([]impl.Crane{crane("ada", 0, 0)}, 5000)},
	}
	for _, c := range badCranes() {
		list = append(list, site(c), site(crane("first", 3000, 3000), c), site(c, crane("second", 3000, 3000)))
	}
	return list
}

func randomCrane(r *rand.Rand, name string) impl.Crane {
	list := randomChart(r)
	jib := last(list) + int64(r.Intn(int(1001-last(list))))
	return impl.Crane{
		Name: name, At: impl.Point{X: int64(r.Intn(2001)) - 1000, Y: int64(r.Intn(2001)) - 1000},
		Height: 1 + int64(r.Intn(2000)), Jib: jib, Back: int64(r.Intn(int(jib) + 1)), Chart: list,
	}
}

// someSites has good sites and many that are made of random cranes.
func someSites() []impl.Site {
	r := rand.New(rand.NewSource(4))
	list := goodSites()
	for range 60 {
		s := impl.Site{}
		for i := range 1 + r.Intn(6) {
			c := randomCrane(r, "c"+strconv.Itoa(i))
			if !slices.ContainsFunc(s.Cranes, func(other impl.Crane) bool { return squareOf(c.At, other.At) <= 100 }) {
				s.Cranes = append(s.Cranes, c)
			}
		}
		list = append(list, s)
	}
	return list
}

func squareOf(a, b impl.Point) int64 { return (a.X-b.X)*(a.X-b.X) + (a.Y-b.Y)*(a.Y-b.Y) }

// wayTo is the distance of two points, rounded up.
func wayTo(a, b impl.Point) int64 {
	root := new(big.Int).Sqrt(big.NewInt(squareOf(a, b))).Int64()
	if root*root < squareOf(a, b) {
		root++
	}
	return root
}

// copied returns a site that shares no memory with s.
func copied(s impl.Site) impl.Site {
	cranes := slices.Clone(s.Cranes)
	for i := range cranes {
		cranes[i].Chart = slices.Clone(cranes[i].Chart)
	}
	return impl.Site{Cranes: cranes}
}

// equalCranes compares without the program, so that it can test SameSite.
func equalCranes(a, b impl.Crane) bool {
	return a.Name == b.Name && a.At == b.At && a.Height == b.Height && a.Jib == b.Jib && a.Back == b.Back && slices.Equal(a.Chart, b.Chart)
}

func sameSite(t *testing.T, what string, got, want impl.Site) {
	t.Helper()
	if !slices.EqualFunc(got.Cranes, want.Cranes, equalCranes) {
		t.Errorf("%s: got %v, want %v", what, got, want)
	}
}

func sameNumbers(t *testing.T, what string, got, want []int64) {
	t.Helper()
	if !slices.Equal(got, want) {
		t.Errorf("%s: got %v, want %v", what, got, want)
	}
}

func TestCraneConstants(t *testing.T) {
	same(t, "MaxHeight", impl.MaxHeight, 2000)
	same(t, "MaxCranes", impl.MaxCranes, 6)
}

func TestValidCrane(t *testing.T) {
	for i, c := range goodCranes() {
		same(t, "crane "+strconv.Itoa(i), impl.ValidCrane(c), true)
	}
	for i, c := range badCranes() {
		same(t, "no crane "+strconv.Itoa(i), impl.ValidCrane(c), false)
	}
	lengths := append([]int64{300, 301, 1999, 2000, 2001}, edges...)
	for _, a := range lengths {
		same(t, "height", impl.ValidCrane(changed(func(c *impl.Crane) { c.Height = a })), within(a, 1, 2000))
		for _, b := range lengths {
			same(t, "place", impl.ValidCrane(crane("ada", a, b)), isPlace(impl.Point{X: a, Y: b}))
			same(t, "lengths", impl.ValidCrane(withJib(a, b, chart(1, 5))), within(a, 1, 1000) && within(b, 0, a))
			same(t, "reach", impl.ValidCrane(withJib(a, 0, chart(b, 5))), within(a, 1, 1000) && within(b, 1, a))
		}
	}
}

func TestValidSite(t *testing.T) {
	for i, s := range someSites() {
		same(t, "site "+strconv.Itoa(i), impl.ValidSite(s), true)
	}
	for i, s := range badSites() {
		same(t, "no site "+strconv.Itoa(i), impl.ValidSite(s), false)
	}
	for x := int64(-12); x <= 12; x++ {
		for y := int64(-12); y <= 12; y++ {
			s := site(crane("ada", 500, 500), crane("bo", 500+x, 500+y))
			same(t, "cranes at the distance "+impl.Decimal(x)+" "+impl.Decimal(y), impl.ValidSite(s), x*x+y*y > 100)
		}
	}
	for n := range 9 {
		same(t, strconv.Itoa(n)+" cranes", impl.ValidSite(row(n, 500, 500)), within(int64(n), 1, 6))
	}
}

func TestSameSite(t *testing.T) {
	sites := append(goodSites(), row(7, 500, 0), row(2, 0, 0), site(), site(impl.Crane{}), impl.Site{Cranes: make([]impl.Crane, 7)})
	for i, a := range sites {
		for j, b := range sites {
			same(t, strconv.Itoa(i)+" and "+strconv.Itoa(j), impl.SameSite(a, copied(b)), slices.EqualFunc(a.Cranes, b.Cranes, equalCranes))
		}
	}
	changes := []func(c *impl.Crane){
		func(c *impl.Crane) { c.Name += "x" }, func(c *impl.Crane) { c.At.X++ }, func(c *impl.Crane) { c.At.Y-- }, func(c *impl.Crane) { c.Height++ },
		func(c *impl.Crane) { c.Jib++ }, func(c *impl.Crane) { c.Back = math.MinInt64 }, func(c *impl.Crane) { c.Chart = nil },
		func(c *impl.Crane) { c.Chart[1].Load-- }, func(c *impl.Crane) { c.Chart[0].Radius-- }, func(c *impl.Crane) { c.Chart = c.Chart[:1] },
	}
	for i, change := range changes {
		for j := range 3 {
			s := row(3, 500, 0)
			other := copied(s)
			change(&other.Cranes[j])
			same(t, "change "+strconv.Itoa(i), impl.SameSite(s, other), false)
			same(t, "change "+strconv.Itoa(i), impl.SameSite(other, s), false)
			same(t, "change "+strconv.Itoa(i)+" of both", impl.SameSite(other, copied(other)), true)
		}
	}
	same(t, "nil and empty", impl.SameSite(impl.Site{}, impl.Site{Cranes: []impl.Crane{}}), true)
	same(t, "nil and empty charts", impl.SameSite(site(impl.Crane{}), site(impl.Crane{Chart: chart()})), true)
	same(t, "another order", impl.SameSite(site(crane("ada", 0, 0), crane("bo", 500, 0)), site(crane("bo", 500, 0), crane("ada", 0, 0))), false)
	same(t, "one less", impl.SameSite(row(3, 500, 0), row(2, 500, 0)), false)
	same(t, "none", impl.SameSite(impl.Site{}, row(1, 0, 0)), false)
}

func TestAddCrane(t *testing.T) {
	for n := 1; n <= 5; n++ {
		s, c := row(n, 500, 0), crane("new", -500, 7)
		got, k := impl.AddCrane(s, c)
		same(t, "code", k, impl.OK)
		sameSite(t, "one more than "+strconv.Itoa(n), got, site(append(copied(s).Cranes, c)...))
		same(t, "valid", impl.ValidSite(got), true)
	}
	for x := int64(-12); x <= 12; x++ {
		for y := int64(-12); y <= 12; y++ {
			_, c := impl.AddCrane(row(3, 500, 500), crane("new", 500+x, 500+y))
			same(t, "clash at "+impl.Decimal(x)+" "+impl.Decimal(y), c == impl.ErrClash, x*x+y*y <= 100)
			same(t, "no clash at "+impl.Decimal(x)+" "+impl.Decimal(y), c == impl.OK, x*x+y*y > 100)
		}
	}
}

func TestAddCraneErrorOrder(t *testing.T) {
	for _, s := range slices.Concat(goodSites(), badSites()) {
		for _, c := range slices.Concat(goodCranes(), badCranes(), []impl.Crane{crane("c0", 11, 10), crane("c5", 0, 9), crane("new", 0, 9), crane("new", 77, 77)}) {
			want := int64(impl.OK)
			switch {
			case !impl.ValidSite(s) || !impl.ValidCrane(c):
				want = impl.ErrInvalid
			case slices.ContainsFunc(s.Cranes, func(other impl.Crane) bool { return other.Name == c.Name }):
				want = impl.ErrExists
			case len(s.Cranes) == 6:
				want = impl.ErrFull
			case slices.ContainsFunc(s.Cranes, func(other impl.Crane) bool { return squareOf(other.At, c.At) <= 100 }):
				want = impl.ErrClash
			}
			got, k := impl.AddCrane(s, c)
			same(t, "code", k, want)
			if want != impl.OK {
				same(t, "cranes beside an error", len(got.Cranes), 0)
			}
		}
	}
	cases := []struct {
		s    impl.Site
		c    impl.Crane
		want int64
	}{
		{row(6, 500, 0), crane("c2", 0, 0), impl.ErrExists}, {row(6, 500, 0), crane("new", 0, 0), impl.ErrFull}, {row(6, 500, 0), crane("new", 77, 77), impl.ErrFull},
		{row(5, 500, 0), crane("c4", 77, 77), impl.ErrExists}, {row(5, 500, 0), crane("c4", 0, 0), impl.ErrExists}, {row(5, 500, 0), crane("c5", 6, 8), impl.ErrClash},
		{row(5, 500, 0), crane("c5", 2006, 8), impl.ErrClash}, {row(5, 500, 0), crane("c5", 2007, 8), impl.OK}, {row(6, 500, 0), crane("C2", 0, 0), impl.ErrInvalid},
		{row(7, 500, 0), crane("c2", 0, 0), impl.ErrInvalid}, {row(1, 0, 0), crane("c0", 0, 0), impl.ErrExists}, {row(1, 0, 0), crane("c", 0, 0), impl.ErrClash},
	}
	for i, x := range cases {
		same(t, "case "+strconv.Itoa(i), code(impl.AddCrane(x.s, x.c)), x.want)
	}
}

func TestRemoveCrane(t *testing.T) {
	for _, s := range someSites() {
		for i := range s.Cranes {
			got, c := impl.RemoveCrane(s, int64(i))
			if len(s.Cranes) == 1 {
				same(t, "code for the only crane", c, impl.ErrState)
				same(t, "cranes beside an error", len(got.Cranes), 0)
				continue
			}
			same(t, "code", c, impl.OK)
			sameSite(t, "one less", got, impl.Site{Cranes: slices.Concat(s.Cranes[:i], s.Cranes[i+1:])})
			same(t, "valid", impl.ValidSite(got), true)
		}
	}
}

func TestCraneNamed(t *testing.T) {
	for _, s := range someSites() {
		for i, c := range s.Cranes {
			got, k := impl.CraneNamed(s, c.Name)
			same(t, "index", got, int64(i))
			same(t, "code", k, impl.OK)
		}
		for _, name := range []string{"", "nobody", "Ada", "c", "c00", "c6", "a234567890123", "ada ", "\xff"} {
			got, k := impl.CraneNamed(s, name)
			same(t, "index of none", got, int64(0))
			same(t, "code of none", k, impl.ErrNotFound)
		}
	}
	for _, s := range badSites() {
		for _, name := range []string{"", "ada", "first", "c1", "nobody"} {
			got, k := impl.CraneNamed(s, name)
			same(t, "index without a site", got, int64(0))
			same(t, "code without a site", k, impl.ErrInvalid)
		}
	}
}

func TestEndsOfJibs(t *testing.T) {
	cases := []struct {
		c         impl.Crane
		d         int64
		jib, back impl.Point
	}{
		{crane("ada", 0, 0), 6, impl.Point{Y: 300}, impl.Point{Y: -100}},
		{crane("ada", 0, 0), 2, impl.Point{X: 259, Y: 150}, impl.Point{X: -86, Y: -50}},
		{crane("ada", -5, 5), 2, impl.Point{X: 254, Y: 155}, impl.Point{X: -91, Y: -45}},
		{crane("ada", 5, -5), 14, impl.Point{X: -254, Y: -155}, impl.Point{X: 91, Y: 45}},
		{crane("ada", 10000, 0), 0, impl.Point{X: 10300}, impl.Point{X: 9900}},
		{crane("ada", 10000, 0), 12, impl.Point{X: 9700}, impl.Point{X: 10100}},
		{crane("ada", 0, -10000), 18, impl.Point{Y: -10300}, impl.Point{Y: -9900}},
		{withJib(1, 0, chart(1, 5)), 3, impl.Point{X: 20, Y: -30}, impl.Point{X: 20, Y: -30}},
		{withJib(1, 1, chart(1, 5)), 12, impl.Point{X: 19, Y: -30}, impl.Point{X: 21, Y: -30}},
		{withJib(1000, 1000, chart(1, 5)), 23, impl.Point{X: 986, Y: -289}, impl.Point{X: -946, Y: 229}},
		{withJib(1000, 0, chart(1, 5)), 9, impl.Point{X: -687, Y: 677}, impl.Point{X: 20, Y: -30}},
	}
	for _, x := range cases {
		jib, one := impl.JibEnd(x.c, x.d)
		back, two := impl.BackEnd(x.c, x.d)
		same(t, "jib end", jib, x.jib)
		same(t, "back end", back, x.back)
		same(t, "codes", one+two, impl.OK)
	}
	for _, s := range someSites() {
		for _, c := range s.Cranes {
			for d, v := range vectors {
				jib, one := impl.JibEnd(c, int64(d))
				back, two := impl.BackEnd(c, int64(d))
				same(t, "jib end", jib, impl.Point{X: c.At.X + offset(v.X, c.Jib), Y: c.At.Y + offset(v.Y, c.Jib)})
				same(t, "back end", back, impl.Point{X: c.At.X - offset(v.X, c.Back), Y: c.At.Y - offset(v.Y, c.Back)})
				same(t, "codes", one+two, impl.OK)
			}
		}
	}
}

func TestEndsOfJibsErrorOrder(t *testing.T) {
	for _, d := range edges {
		for _, c := range badCranes() {
			jib, one := impl.JibEnd(c, d)
			back, two := impl.BackEnd(c, d)
			same(t, "jib end without a crane", jib, impl.Point{})
			same(t, "back end without a crane", back, impl.Point{})
			same(t, "code of JibEnd", one, impl.ErrInvalid)
			same(t, "code of BackEnd", two, impl.ErrInvalid)
		}
		for _, c := range goodCranes() {
			jib, one := impl.JibEnd(c, d)
			back, two := impl.BackEnd(c, d)
			same(t, "code of JibEnd", one == impl.ErrRange, !isDirection(d))
			same(t, "code of BackEnd", two == impl.ErrRange, !isDirection(d))
			if !isDirection(d) {
				same(t, "jib end without a direction", jib, impl.Point{})
				same(t, "back end without a direction", back, impl.Point{})
			}
		}
	}
}

// checkLoad compares LoadAtPlace and ReachesPlace with the distance and the line of loads.
func checkLoad(t *testing.T, c impl.Crane, p impl.Point) {
	t.Helper()
	load, k := impl.LoadAtPlace(c, p)
	radius := wayTo(c.At, p)
	what := "the place at the radius " + impl.Decimal(radius) + " of " + impl.ChartText(c.Chart)
	if radius > last(c.Chart) {
		same(t, "code of "+what, k, impl.ErrNotFound)
		same(t, "load of "+what, load, int64(0))
	} else {
		same(t, "code of "+what, k, impl.OK)
		same(t, "load of "+what, load, lineLoad(c.Chart, radius))
	}
	same(t, "reach of "+what, impl.ReachesPlace(c, p), radius <= last(c.Chart))
}

func TestLoadAtPlaceAsTold(t *testing.T) {
	short := withJib(300, 0, chart(100, 6000, 200, 2000))
	long := withJib(1000, 0, chart(1000, 9))
	corner := crane("ada", 10000, 10000)
	cases := []struct {
		c                impl.Crane
		x, y, load, code int64
	}{
		{c: crane("ada", 0, 0), x: 200, load: 4000}, {c: crane("ada", 0, 0), load: 6000}, {c: crane("ada", 0, 0), y: -100, load: 6000},
		{c: crane("ada", 0, 0), x: 300, load: 2000}, {c: crane("ada", 0, 0), x: 180, y: 240, load: 2000}, {c: crane("ada", 0, 0), x: 180, y: -241, code: impl.ErrNotFound},
		{c: crane("ada", 0, 0), x: 301, code: impl.ErrNotFound}, {c: crane("ada", 0, 0), x: 300, y: 1, code: impl.ErrNotFound}, {c: crane("ada", 0, 0), x: -300, load: 2000},
		{c: crane("ada", 0, 0), x: -212, y: -212, load: 2000}, {c: crane("ada", 0, 0), x: -212, y: -213, code: impl.ErrNotFound}, {c: crane("ada", 0, 0), x: 100, y: 1, load: 5980},
		{c: short, x: 220, y: -30, load: 2000}, {c: short, x: 221, y: -30, code: impl.ErrNotFound}, {c: short, x: 320, y: -30, code: impl.ErrNotFound},
		{c: long, x: 1020, y: -30, load: 9}, {c: long, x: 1021, y: -30, code: impl.ErrNotFound}, {c: long, x: 1020, y: -31, code: impl.ErrNotFound}, {c: long, x: 620, y: 770, load: 9},
		{c: long, x: 10000, y: 10000, code: impl.ErrNotFound}, {c: long, x: -10000, y: 10000, code: impl.ErrNotFound},
		{c: corner, x: -10000, y: -10000, code: impl.ErrNotFound}, {c: corner, x: 9700, y: 10000, load: 2000}, {c: corner, x: 9699, y: 10000, code: impl.ErrNotFound},
		{c: corner, x: 10001, y: 10000, code: impl.ErrInvalid}, {c: corner, x: 10000, y: math.MaxInt64, code: impl.ErrInvalid}, {c: crane("Ada", 0, 0), code: impl.ErrInvalid},
	}
	for i, x := range cases {
		p := impl.Point{X: x.x, Y: x.y}
		load, k := impl.LoadAtPlace(x.c, p)
		same(t, "load of case "+strconv.Itoa(i), load, x.load)
		same(t, "code of case "+strconv.Itoa(i), k, x.code)
		same(t, "reach of case "+strconv.Itoa(i), impl.ReachesPlace(x.c, p), x.code == impl.OK)
	}
}

func TestLoadsAtManyPlaces(t *testing.T) {
	r := rand.New(rand.NewSource(5))
	for _, s := range someSites() {
		for _, c := range s.Cranes {
			for d, v := range vectors {
				for _, radius := range []int64{0, 1, last(c.Chart) - 1, last(c.Chart), last(c.Chart) + 1, c.Jib + 1, 1000, 1001, 1002, int64(r.Intn(1001))} {
					p := impl.Point{X: c.At.X + offset(v.X, radius), Y: c.At.Y + offset(v.Y, radius)}
					if isPlace(p) {
						checkLoad(t, c, p)
					}
					// Straight ahead there is no rounding, so that the edge is met exactly.
					p = impl.Point{X: c.At.X + vectors[d/6*6].X/1000*radius, Y: c.At.Y + vectors[d/6*6].Y/1000*radius}
					if isPlace(p) {
						checkLoad(t, c, p)
					}
				}
			}
		}
	}
}

func TestLoadAtPlaceErrors(t *testing.T) {
	for _, p := range somePoints {
		for _, c := range badCranes() {
			load, k := impl.LoadAtPlace(c, p)
			same(t, "load without a crane", load, int64(0))
			same(t, "code without a crane", k, impl.ErrInvalid)
			same(t, "reach without a crane", impl.ReachesPlace(c, p), false)
		}
		for _, c := range goodCranes() {
			load, k := impl.LoadAtPlace(c, p)
			same(t, "code", k == impl.ErrInvalid, !isPlace(p))
			if k != impl.OK {
				same(t, "load beside an error", load, int64(0))
			}
			same(t, "reach", impl.ReachesPlace(c, p), k == impl.OK)
		}
	}
}

func TestNeighboursOf(t *testing.T) {
	for _, s := range someSites() {
		for i, c := range s.Cranes {
			want := []int64{}
			for j, other := range s.Cranes {
				if j != i && wayTo(c.At, other.At) <= c.Jib+other.Jib {
					want = append(want, int64(j))
				}
			}
			got, k := impl.NeighboursOf(s, int64(i))
			same(t, "code", k, impl.OK)
			sameNumbers(t, "neighbours", got, want)
		}
	}
	long := withJib(1000, 0, chart(1, 5))
	long.At = impl.Point{X: -400}
	cases := []struct {
		s    impl.Site
		i    int64
		want []int64
	}{
		{row(1, 0, 0), 0, nil}, {row(2, 600, 0), 0, []int64{1}}, {row(2, 601, 0), 0, nil}, {row(2, 600, 1), 1, nil}, {row(2, 599, 1), 1, []int64{0}},
		{row(3, 360, 480), 0, []int64{1}}, {row(3, 360, 480), 1, []int64{0, 2}}, {row(3, 360, -481), 1, nil}, {row(6, 200, 0), 0, []int64{1, 2, 3}},
		{row(6, 200, 0), 2, []int64{0, 1, 3, 4, 5}}, {row(6, 0, 120), 5, []int64{0, 1, 2, 3, 4}},
		{site(long, crane("bo", 900, 0), crane("cy", 901, 500)), 0, []int64{1}}, {site(crane("bo", 900, 0), crane("cy", 901, 500), long), 2, []int64{0}},
		{site(crane("bo", 900, 0), crane("cy", 901, 500), long), 0, []int64{1, 2}}, {site(crane("a", -10000, -10000), crane("b", 10000, 10000)), 0, nil},
	}
	for i, x := range cases {
		got, k := impl.NeighboursOf(x.s, x.i)
		same(t, "code of case "+strconv.Itoa(i), k, impl.OK)
		sameNumbers(t, "neighbours of case "+strconv.Itoa(i), got, x.want)
	}
}

func TestCraneIndexErrorOrder(t *testing.T) {
	for _, i := range append([]int64{2, 3, 4, 6, 7}, edges...) {
		for _, s := range badSites() {
			got, one := impl.RemoveCrane(s, i)
			near, two := impl.NeighboursOf(s, i)
			same(t, "cranes beside an error", len(got.Cranes), 0)
			same(t, "neighbours beside an error", len(near), 0)
			same(t, "code of RemoveCrane", one, impl.ErrInvalid)
			same(t, "code of NeighboursOf", two, impl.ErrInvalid)
		}
		for _, s := range goodSites() {
			got, one := impl.RemoveCrane(s, i)
			near, two := impl.NeighboursOf(s, i)
			inside := within(i, 0, int64(len(s.Cranes))-1)
			same(t, "code of RemoveCrane", one == impl.ErrRange, !inside)
			same(t, "code of NeighboursOf", two == impl.ErrRange, !inside)
			if !inside {
				same(t, "cranes beside an error", len(got.Cranes), 0)
				same(t, "neighbours beside an error", len(near), 0)
			}
		}
	}
}

func TestCoverOf(t *testing.T) {
	r := rand.New(rand.NewSource(6))
	for _, s := range someSites() {
		points := slices.Clone(somePoints)
		for _, c := range s.Cranes {
			points = append(points, c.At, impl.Point{X: c.At.X + last(c.Chart), Y: c.At.Y}, impl.Point{X: c.At.X, Y: c.At.Y - last(c.Chart) - 1})
		}
		for range 40 {
			points = append(points, impl.Point{X: int64(r.Intn(3001)) - 1500, Y: int64(r.Intn(3001)) - 1500})
		}
		for _, p := range points {
			got, k := impl.CoverOf(s, p)
			if !isPlace(p) {
				same(t, "code without a place", k, impl.ErrInvalid)
				same(t, "cover without a place", len(got), 0)
				continue
			}
			want := []int64{}
			for i, c := range s.Cranes {
				if wayTo(c.At, p) <= last(c.Chart) {
					want = append(want, int64(i))
				}
			}
			same(t, "code", k, impl.OK)
			sameNumbers(t, "cover", got, want)
		}
	}
	for _, s := range badSites() {
		for _, p := range somePoints {
			got, k := impl.CoverOf(s, p)
			same(t, "code without a site", k, impl.ErrInvalid)
			same(t, "cover without a site", len(got), 0)
		}
	}
	got, _ := impl.CoverOf(row(6, 200, 0), impl.Point{X: 500})
	sameNumbers(t, "cover of a row", got, []int64{1, 2, 3, 4})
	got, k := impl.CoverOf(row(6, 200, 0), impl.Point{Y: 301})
	sameNumbers(t, "cover out of reach", got, nil)
	same(t, "code out of reach", k, impl.OK)
}

// Promise 4: a crane that is added is found, and the ones that were there are found where they were.
func TestPromise4AddedCranesAreFound(t *testing.T) {
	r := rand.New(rand.NewSource(7))
	added := 0
	for _, s := range someSites() {
		for range 8 {
			c := randomCrane(r, "new-"+strconv.Itoa(added))
			got, k := impl.AddCrane(s, c)
			if k != impl.OK {
				continue
			}
			added++
			i, k := impl.CraneNamed(got, c.Name)
			same(t, "code", k, impl.OK)
			same(t, "index", i, int64(len(s.Cranes)))
			same(t, "the crane that is found", equalCranes(got.Cranes[i], c), true)
			cover, k := impl.CoverOf(got, c.At)
			same(t, "code", k, impl.OK)
			same(t, "it reaches its own place", slices.Contains(cover, i), true)
			for j, other := range s.Cranes {
				i, k := impl.CraneNamed(got, other.Name)
				same(t, "code", k, impl.OK)
				same(t, "index", i, int64(j))
				same(t, "the crane that was there", equalCranes(got.Cranes[i], other), true)
			}
			back, k := impl.RemoveCrane(got, int64(len(s.Cranes)))
			same(t, "code", k, impl.OK)
			same(t, "removed again", impl.SameSite(back, s), true)
			same(t, "not found again", code(impl.CraneNamed(back, c.Name)), impl.ErrNotFound)
		}
	}
	if added < 100 {
		t.Errorf("only %d cranes were added", added)
	}
}

// Promise 4: the ends are at the told lengths, less the rounding of X and Y, on both sides of the place and on one line with it.
func TestPromise4JibsAreAsLongAsTold(t *testing.T) {
	for jib := int64(1); jib <= 1000; jib += 1 + jib/40 {
		for _, back := range []int64{0, 1, jib / 3, jib} {
			c := withJib(jib, min(back, jib), chart(1, 5))
			for d := range int64(24) {
				far, one := impl.JibEnd(c, d)
				near, two := impl.BackEnd(c, d)
				same(t, "codes", one+two, impl.OK)
				for _, x := range []struct {
					end    impl.Point
					length int64
				}{{far, c.Jib}, {near, c.Back}} {
					if n := wayTo(c.At, x.end); n < x.length-1 || n > x.length+1 {
						t.Errorf("direction %d: the end for %d is at %d", d, x.length, n)
					}
				}
				if (far.X-c.At.X)*(near.X-c.At.X)+(far.Y-c.At.Y)*(near.Y-c.At.Y) > 0 {
					t.Errorf("direction %d: %v and %v are on one side of %v", d, far, near, c.At)
				}
				if c.Back == c.Jib && (far.X-c.At.X != c.At.X-near.X || far.Y-c.At.Y != c.At.Y-near.Y) {
					t.Errorf("direction %d: %v and %v are not opposite", d, far, near)
				}
			}
		}
	}
}

// spareSite returns a copy of a site with more cranes and steps in unused capacity, and all of its memory.
func spareSite(s impl.Site) (part impl.Site, cranes []impl.Crane, charts [][]impl.ChartStep) {
	cranes = append(copied(s).Cranes, crane("spare", 1, 2), crane("spare-too", 3, 4))
	for i := range cranes {
		list, whole := spare(cranes[i].Chart)
		cranes[i].Chart = list
		charts = append(charts, whole)
	}
	return impl.Site{Cranes: cranes[:len(s.Cranes)]}, cranes, charts
}

// numbersText tells the results of a call in one string.
func numbersText(list []int64, code int64) string {
	text := impl.Decimal(code)
	for _, n := range list {
		text += " " + impl.Decimal(n)
	}
	return text
}

// craneResults has the results of all functions of the chapter.
func craneResults(s impl.Site, c impl.Crane, p impl.Point, n int64) ([]impl.Site, []int64, string) {
	added, one := impl.AddCrane(s, c)
	removed, two := impl.RemoveCrane(s, n)
	index, three := impl.CraneNamed(s, c.Name)
	jib, four := impl.JibEnd(c, n)
	back, five := impl.BackEnd(c, n)
	load, six := impl.LoadAtPlace(c, p)
	numbers := []int64{one, two, index, three, jib.X, jib.Y, four, back.X, back.Y, five, load, six}
	for _, ok := range []bool{impl.ValidCrane(c), impl.ValidSite(s), impl.SameSite(s, s), impl.SameSite(added, removed), impl.ReachesPlace(c, p)} {
		if ok {
			numbers = append(numbers, 1)
		} else {
			numbers = append(numbers, 0)
		}
	}
	return []impl.Site{added, removed}, numbers, numbersText(impl.NeighboursOf(s, n)) + ", " + numbersText(impl.CoverOf(s, p))
}

// Promise 1: no function changes a site, a crane or their spare memory, and equal arguments have equal results.
func TestPromise1Cranes(t *testing.T) {
	cranes := append(goodCranes(), crane("new", 4000, 5000), crane("c0", 7, 8), impl.Crane{}, crane("new", math.MinInt64, math.MaxInt64), withJib(300, 0, stairs(21, 1, 1, 21, 1)))
	for _, s := range slices.Concat(goodSites(), badSites()) {
		part, whole, charts := spareSite(s)
		keptPart, kept, keptCharts := copied(part), slices.Clone(whole), [][]impl.ChartStep{}
		for _, list := range charts {
			keptCharts = append(keptCharts, slices.Clone(list))
		}
		for _, c := range cranes {
			list, steps := spare(c.Chart)
			keptSteps := slices.Clone(steps)
			given := c
			given.Chart = list
			for k, p := range somePoints {
				n := edges[(k*7+len(c.Chart))%len(edges)]
				sites, numbers, text := craneResults(part, given, p, n)
				again, numbersAgain, textAgain := craneResults(copied(s), c, p, n)
				sameSite(t, "added twice", sites[0], again[0])
				sameSite(t, "removed twice", sites[1], again[1])
				sameNumbers(t, "results twice", numbers, numbersAgain)
				same(t, "lists twice", text, textAgain)
			}
			sameChart(t, "memory of the crane's chart", steps, keptSteps)
		}
		sameSite(t, "the site that was given", part, keptPart)
		sameSite(t, "memory of the site", impl.Site{Cranes: whole}, impl.Site{Cranes: kept})
		for i, list := range charts {
			sameChart(t, "memory of a chart", list, keptCharts[i])
		}
	}
}

// scribble writes to all memory of a site.
func scribble(s impl.Site) {
	cranes := s.Cranes[:cap(s.Cranes)]
	for i := range cranes {
		steps := cranes[i].Chart[:cap(cranes[i].Chart)]
		for j := range steps {
			steps[j] = impl.ChartStep{Radius: -7, Load: -7}
		}
	}
	for i := range cranes {
		cranes[i] = impl.Crane{Name: "scribbled", Jib: -7}
	}
}

// Promise 1: sites that are returned share no memory with what is given, and no two of their charts share any.
func TestPromise1SitesAreNew(t *testing.T) {
	for _, s := range someSites() {
		c := crane("new", 4000, 5000)
		if len(s.Cranes) > 1 {
			c.Chart = s.Cranes[0].Chart
			c.Jib = s.Cranes[0].Jib
			c.Back = 0
		}
		kept, keptCrane := copied(s), copied(site(c))
		calls := []func() (impl.Site, int64){
			func() (impl.Site, int64) { return impl.AddCrane(s, c) },
			func() (impl.Site, int64) { return impl.RemoveCrane(s, 0) },
			func() (impl.Site, int64) { return impl.RemoveCrane(s, int64(len(s.Cranes))-1) },
		}
		for i, call := range calls {
			got, k := call()
			if k != impl.OK {
				continue
			}
			first := copied(got)
			for j := range got.Cranes {
				before := copied(got)
				steps := got.Cranes[j].Chart[:cap(got.Cranes[j].Chart)]
				steps[0].Load = -7
				before.Cranes[j].Chart[0].Load = -7
				sameSite(t, "call "+strconv.Itoa(i)+" after one chart was changed", got, before)
			}
			scribble(got)
			sameSite(t, "the site that was given", s, kept)
			sameSite(t, "the crane that was given", site(c), keptCrane)
			again, k := call()
			same(t, "code of call "+strconv.Itoa(i), k, impl.OK)
			sameSite(t, "call "+strconv.Itoa(i)+" again", again, first)
		}
	}
}

// Promise 1: lists of indices are new as well.
func TestPromise1IndicesAreNew(t *testing.T) {
	s := row(6, 200, 0)
	calls := []func() []int64{
		func() []int64 { got, _ := impl.NeighboursOf(s, 2); return got },
		func() []int64 { got, _ := impl.CoverOf(s, impl.Point{X: 500}); return got },
	}
	for i, call := range calls {
		first := call()
		kept := slices.Clone(first)
		for j := range first[:cap(first)] {
			first[:cap(first)][j] = -7
		}
		sameNumbers(t, "call "+strconv.Itoa(i)+" again", call(), kept)
	}
}
