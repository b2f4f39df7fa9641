package tests

import (
	"math"
	"math/big"
	"math/rand"
	"slices"
	"strconv"
	"strings"
	"testing"

	"loop.example/g00932/impl"
)

// chart builds a chart from radii and loads in turn.
func chart(numbers ...int64) []impl.ChartStep {
	list := []impl.ChartStep{}
	for i := 0; i < len(numbers); i += 2 {
		list = append(list, impl.ChartStep{Radius: numbers[i], Load: numbers[i+1]})
	}
	return list
}

// stairs has n steps, from the radius first on, with the same way between their radii and between their loads.
func stairs(n int, first, way, load, less int64) []impl.ChartStep {
	list := []impl.ChartStep{}
	for i := range int64(n) {
		list = append(list, impl.ChartStep{Radius: first + i*way, Load: load - i*less})
	}
	return list
}

// goodCharts has charts of 1 to 20 steps, with radii and loads at their limits.
func goodCharts() [][]impl.ChartStep {
	return [][]impl.ChartStep{
		chart(1, 0), chart(1, 50000), chart(1000, 0), chart(1000, 50000), chart(5, 7), chart(100, 6000, 300, 2000),
		chart(1, 50000, 1000, 0), chart(1, 50000, 2, 0), chart(999, 50000, 1000, 50000), chart(10, 0, 20, 0),
		chart(10, 100, 13, 99, 16, 97, 23, 90), chart(3, 10, 10, 9, 17, 2), chart(200, 3000), chart(200, 3000, 400, 2999),
		chart(7, 50000, 8, 49999, 998, 1, 999, 0), stairs(20, 1, 1, 20, 1), stairs(20, 50, 50, 50000, 2500),
		stairs(20, 981, 1, 30000, 0), stairs(20, 49, 50, 7777, 37), stairs(19, 3, 52, 1000, 55),
	}
}

// badCharts has lists that are no charts, each for one reason.
func badCharts() [][]impl.ChartStep {
	return [][]impl.ChartStep{
		nil, {}, chart(0, 5), chart(-1, 5), chart(1001, 5), chart(5, -1), chart(5, 50001), chart(5, 10, 5, 10), chart(5, 10, 4, 9),
		chart(5, 10, 6, 11), chart(5, 10, 6, -1), chart(5, 10, 1001, 9), chart(5, 10, 7, 9, 6, 8), chart(0, 10, 7, 9), chart(5, 50001, 7, 9),
		stairs(21, 1, 1, 21, 1), stairs(21, 40, 40, 500, 0), chart(math.MinInt64, 5), chart(math.MaxInt64, 5), chart(5, math.MinInt64),
		chart(5, math.MaxInt64), chart(5, 10, math.MaxInt64, 5), chart(5, 10, math.MinInt64, 5), chart(5, 10, 6, math.MaxInt64),
	}
}

func randomChart(r *rand.Rand) []impl.ChartStep {
	n := 1 + r.Intn(20)
	most := []int{24, 100, 1000}[r.Intn(3)]
	radii := r.Perm(most)[:n]
	slices.Sort(radii)
	loads := []int64{}
	for range n {
		loads = append(loads, int64(r.Intn([]int{3, 100, 50001}[r.Intn(3)])))
	}
	slices.Sort(loads)
	list := []impl.ChartStep{}
	for i := range n {
		list = append(list, impl.ChartStep{Radius: int64(radii[i]) + 1, Load: loads[n-1-i]})
	}
	return list
}

func someCharts() [][]impl.ChartStep {
	r := rand.New(rand.NewSource(3))
	list := goodCharts()
	for range 60 {
		list = append(list, randomChart(r))
	}
	return list
}

func last(list []impl.ChartStep) int64 { return list[len(list)-1].Radius }

// lineLoad rounds the exact load down; it draws the line from the far end, other than the document does.
func lineLoad(list []impl.ChartStep, radius int64) int64 {
	if radius <= list[0].Radius {
		return list[0].Load
	}
	i := 1
	for list[i].Radius < radius {
		i++
	}
	near, far := list[i-1], list[i]
	line := big.NewRat((near.Load-far.Load)*(far.Radius-radius), far.Radius-near.Radius)
	line.Add(line, big.NewRat(far.Load, 1))
	return new(big.Int).Div(line.Num(), line.Denom()).Int64()
}

func sameChart(t *testing.T, what string, got, want []impl.ChartStep) {
	t.Helper()
	if !slices.Equal(got, want) {
		t.Errorf("%s: got %v, want %v", what, got, want)
	}
}

func TestChartConstants(t *testing.T) {
	same(t, "MaxChart", impl.MaxChart, 20)
	same(t, "MaxLoad", impl.MaxLoad, 50000)
}

func TestValidChart(t *testing.T) {
	for _, list := range someCharts() {
		same(t, "chart "+impl.ChartText(list), impl.ValidChart(list), true)
	}
	for i, list := range badCharts() {
		same(t, "no chart "+strconv.Itoa(i), impl.ValidChart(list), false)
	}
	for _, a := range edges {
		for _, b := range edges {
			same(t, "one step", impl.ValidChart(chart(a, b)), within(a, 1, 1000) && within(b, 0, 50000))
			same(t, "second step", impl.ValidChart(chart(12, 1000, a, b)), within(a, 13, 1000) && within(b, 0, 1000))
			same(t, "first step", impl.ValidChart(chart(a, b, 1000, 11)), within(a, 1, 999) && within(b, 11, 50000))
		}
	}
}

func TestSameChart(t *testing.T) {
	lists := slices.Concat(goodCharts(), badCharts())
	for i, a := range lists {
		for j, b := range lists {
			same(t, strconv.Itoa(i)+" and "+strconv.Itoa(j), impl.SameChart(a, slices.Clone(b)), i == j || len(a) == 0 && len(b) == 0)
		}
	}
	same(t, "another radius", impl.SameChart(chart(5, 7, 9, 6), chart(5, 7, 8, 6)), false)
	same(t, "another load", impl.SameChart(chart(5, 7, 9, 6), chart(5, 7, 9, 5)), false)
	same(t, "one more", impl.SameChart(chart(5, 7), chart(5, 7, 9, 5)), false)
	same(t, "one less", impl.SameChart(chart(5, 7, 9, 5), chart(5, 7)), false)
}

func TestLoadsOfEveryRadius(t *testing.T) {
	for _, list := range someCharts() {
		text := impl.ChartText(list)
		for radius := int64(0); radius <= 1000; radius++ {
			at, one := impl.LoadAt(list, radius)
			by, two := impl.LoadStep(list, radius)
			if radius > last(list) {
				same(t, "code behind the last step of "+text, one, impl.ErrNotFound)
				same(t, "code behind the last step of "+text, two, impl.ErrNotFound)
				same(t, "load behind the last step of "+text, at+by, int64(0))
				continue
			}
			same(t, "code of "+text, one, impl.OK)
			same(t, "code of "+text, two, impl.OK)
			same(t, "load at "+impl.Decimal(radius)+" of "+text, at, lineLoad(list, radius))
			i := slices.IndexFunc(list, func(s impl.ChartStep) bool { return s.Radius >= radius })
			same(t, "load by steps at "+impl.Decimal(radius)+" of "+text, by, list[i].Load)
		}
	}
}

func TestLoadsAsTold(t *testing.T) {
	list := chart(100, 6000, 300, 2000)
	thirds := chart(10, 100, 13, 99, 16, 97)
	cases := []struct {
		list             []impl.ChartStep
		radius, at, step int64
	}{
		{list, 0, 6000, 6000}, {list, 1, 6000, 6000}, {list, 99, 6000, 6000}, {list, 100, 6000, 6000}, {list, 101, 5980, 2000},
		{list, 200, 4000, 2000}, {list, 299, 2020, 2000}, {list, 300, 2000, 2000},
		// What is taken off is rounded up, so that the load is rounded down.
		{thirds, 10, 100, 100}, {thirds, 11, 99, 99}, {thirds, 12, 99, 99}, {thirds, 13, 99, 99},
		{thirds, 14, 98, 97}, {thirds, 15, 97, 97}, {thirds, 16, 97, 97},
		{chart(1, 50000, 1000, 0), 2, 49949, 0}, {chart(1, 50000, 1000, 0), 999, 50, 0}, {chart(1, 50000, 1000, 0), 1000, 0, 0},
		{chart(1, 1, 1000, 0), 1, 1, 1}, {chart(1, 1, 1000, 0), 2, 0, 0}, {chart(1, 1, 1000, 0), 999, 0, 0},
		{chart(1, 1, 1000, 1), 500, 1, 1}, {chart(5, 7), 0, 7, 7}, {chart(5, 7), 5, 7, 7}, {chart(1000, 50000), 1000, 50000, 50000},
	}
	for _, x := range cases {
		at, one := impl.LoadAt(x.list, x.radius)
		by, two := impl.LoadStep(x.list, x.radius)
		same(t, "load at "+impl.Decimal(x.radius), at, x.at)
		same(t, "load by steps at "+impl.Decimal(x.radius), by, x.step)
		same(t, "codes", one+two, impl.OK)
	}
}

// chartCall is one call with a chart and a number, and the least and the greatest number that it takes.
type chartCall struct {
	name            string
	least, greatest int64
	call            func(list []impl.ChartStep, n int64) (result string, code int64)
}

func numberCall(f func([]impl.ChartStep, int64) (int64, int64)) func([]impl.ChartStep, int64) (string, int64) {
	return func(list []impl.ChartStep, n int64) (string, int64) {
		got, c := f(list, n)
		return impl.Decimal(got), c
	}
}

func listCall(f func([]impl.ChartStep, int64) ([]impl.ChartStep, int64)) func([]impl.ChartStep, int64) (string, int64) {
	return func(list []impl.ChartStep, n int64) (string, int64) {
		got, c := f(list, n)
		if len(got) == 0 {
			return "0", c
		}
		return impl.ChartText(got), c
	}
}

func chartCalls() []chartCall {
	return []chartCall{
		{"LoadStep", 0, 1000, numberCall(impl.LoadStep)},
		{"LoadAt", 0, 1000, numberCall(impl.LoadAt)},
		{"RadiusFor", 0, 50000, numberCall(impl.RadiusFor)},
		{"ReduceChart", 1, 100, listCall(impl.ReduceChart)},
		{"LessWeight", 0, 50000, listCall(impl.LessWeight)},
	}
}

func TestChartErrorOrder(t *testing.T) {
	numbers := append([]int64{100, 101, 49999, 50000, 50001}, edges...)
	for _, x := range chartCalls() {
		for _, n := range numbers {
			for _, list := range badCharts() {
				got, c := x.call(list, n)
				same(t, x.name+" without a chart", c, impl.ErrInvalid)
				same(t, x.name+" beside an error", got, "0")
			}
			for _, list := range goodCharts() {
				got, c := x.call(list, n)
				same(t, x.name+" of "+impl.Decimal(n), c == impl.ErrRange, !within(n, x.least, x.greatest))
				if c != impl.OK {
					same(t, x.name+" beside an error", got, "0")
				}
			}
		}
	}
}

func TestRadiusFor(t *testing.T) {
	list := chart(100, 6000, 300, 2000)
	cases := []struct{ load, radius, code int64 }{
		{0, 300, impl.OK}, {2000, 300, impl.OK}, {2001, 299, impl.OK}, {2020, 299, impl.OK}, {2021, 298, impl.OK}, {4000, 200, impl.OK},
		{4001, 199, impl.OK}, {5980, 101, impl.OK}, {5981, 100, impl.OK}, {6000, 100, impl.OK}, {6001, 0, impl.ErrNotFound}, {50000, 0, impl.ErrNotFound},
	}
	for _, x := range cases {
		got, c := impl.RadiusFor(list, x.load)
		same(t, "radius for "+impl.Decimal(x.load), got, x.radius)
		same(t, "code for "+impl.Decimal(x.load), c, x.code)
	}
	for _, list := range someCharts() {
		for _, load := range loadsBeside(list) {
			want := int64(-1)
			for radius := range last(list) + 1 {
				if lineLoad(list, radius) >= load {
					want = radius
				}
			}
			got, c := impl.RadiusFor(list, load)
			if want < 0 {
				same(t, "code of too great a load", c, impl.ErrNotFound)
				same(t, "radius for too great a load", got, int64(0))
			} else {
				same(t, "code", c, impl.OK)
				same(t, "radius for "+impl.Decimal(load)+" in "+impl.ChartText(list), got, want)
			}
		}
	}
}

// loadsBeside has the loads of the steps of a chart, those in between, and those beside all of them.
func loadsBeside(list []impl.ChartStep) []int64 {
	loads := []int64{0, 1, 49999, 50000}
	for i, step := range list {
		middle := (step.Load + list[max(0, i-1)].Load) / 2
		for d := int64(-1); d <= 1; d++ {
			loads = append(loads, step.Load+d, middle+d)
		}
	}
	return slices.DeleteFunc(loads, func(n int64) bool { return !within(n, 0, 50000) })
}

func TestReduceChart(t *testing.T) {
	list := chart(10, 50000, 20, 199, 30, 101, 40, 100, 50, 99, 60, 1, 70, 0)
	cases := []struct {
		percent int64
		want    []impl.ChartStep
	}{
		{1, chart(10, 500, 20, 1, 30, 1, 40, 1, 50, 0, 60, 0, 70, 0)},
		{50, chart(10, 25000, 20, 99, 30, 50, 40, 50, 50, 49, 60, 0, 70, 0)},
		{99, chart(10, 49500, 20, 197, 30, 99, 40, 99, 50, 98, 60, 0, 70, 0)},
		{100, list},
	}
	for _, x := range cases {
		got, c := impl.ReduceChart(list, x.percent)
		sameChart(t, impl.Decimal(x.percent)+" percent", got, x.want)
		same(t, "code", c, impl.OK)
	}
}

func TestLessWeight(t *testing.T) {
	list := chart(10, 50000, 20, 2501, 30, 2500, 40, 2499, 50, 0)
	cases := []struct {
		weight int64
		want   []impl.ChartStep
	}{
		{0, list},
		{1, chart(10, 49999, 20, 2500, 30, 2499, 40, 2498, 50, 0)},
		{2500, chart(10, 47500, 20, 1, 30, 0, 40, 0, 50, 0)},
		{50000, chart(10, 0, 20, 0, 30, 0, 40, 0, 50, 0)},
	}
	for _, x := range cases {
		got, c := impl.LessWeight(list, x.weight)
		sameChart(t, "less "+impl.Decimal(x.weight), got, x.want)
		same(t, "code", c, impl.OK)
	}
}

func TestLesserChartAsTold(t *testing.T) {
	list := chart(100, 6000, 300, 2000)
	cases := []struct{ a, b, want []impl.ChartStep }{
		{list, chart(200, 3000), chart(100, 3000, 200, 3000)},
		{list, list, list},
		{list, chart(1000, 50000), list},
		{list, chart(1000, 0), chart(100, 0, 300, 0)},
		{list, chart(1, 9), chart(1, 9)},
		{list, chart(100, 3000, 200, 3000, 300, 2500), chart(100, 3000, 200, 3000, 300, 2000)},
		{list, chart(50, 7000, 300, 1999, 301, 5), chart(50, 6000, 100, 5999, 300, 1999)},
		{chart(10, 100, 13, 99), chart(11, 100, 12, 100, 13, 100), chart(10, 100, 11, 99, 12, 99, 13, 99)},
		{chart(500, 10), chart(100, 20, 300, 5), chart(100, 10, 300, 5)},
		{chart(5, 7), chart(5, 6), chart(5, 6)},
	}
	for _, x := range cases {
		got, c := impl.LesserChart(x.a, x.b)
		sameChart(t, "lesser chart", got, x.want)
		same(t, "code", c, impl.OK)
		got, c = impl.LesserChart(x.b, x.a)
		sameChart(t, "lesser chart, turned round", got, x.want)
		same(t, "code", c, impl.OK)
	}
}

func TestLesserChartSteps(t *testing.T) {
	ten, other := stairs(10, 2, 2, 100, 1), stairs(10, 3, 2, 90, 1)
	got, c := impl.LesserChart(ten, other)
	// The last step of the other one is behind the last one of the first.
	same(t, "steps of twice ten", len(got), 19)
	same(t, "code", c, impl.OK)
	got, c = impl.LesserChart(stairs(11, 2, 2, 100, 1), other)
	same(t, "at most 20 steps", len(got), 20)
	same(t, "code", c, impl.OK)
	got, c = impl.LesserChart(stairs(11, 2, 2, 100, 1), stairs(11, 1, 2, 90, 1))
	same(t, "more than 20 steps", len(got), 0)
	same(t, "code", c, impl.ErrFull)
	twenty := stairs(20, 1, 1, 40, 1)
	got, c = impl.LesserChart(twenty, stairs(20, 1, 1, 30, 0))
	same(t, "steps that both have", len(got), 20)
	same(t, "code", c, impl.OK)
	got, c = impl.LesserChart(twenty, stairs(20, 20, 1, 30, 0))
	same(t, "steps behind the last one", len(got), 20)
	same(t, "code", c, impl.OK)
	_, c = impl.LesserChart(twenty, stairs(20, 21, 1, 30, 0))
	same(t, "steps that all are behind the last one", c, impl.OK)
}

func TestLesserChartOfPairs(t *testing.T) {
	lists := someCharts()
	for _, a := range lists {
		for _, b := range lists {
			want := []impl.ChartStep{}
			for radius := int64(1); radius <= min(last(a), last(b)); radius++ {
				here := func(s impl.ChartStep) bool { return s.Radius == radius }
				if slices.ContainsFunc(a, here) || slices.ContainsFunc(b, here) {
					want = append(want, impl.ChartStep{Radius: radius, Load: min(lineLoad(a, radius), lineLoad(b, radius))})
				}
			}
			got, c := impl.LesserChart(a, b)
			if len(want) > 20 {
				same(t, "code of too many steps", c, impl.ErrFull)
				same(t, "steps beside an error", len(got), 0)
			} else {
				same(t, "code", c, impl.OK)
				sameChart(t, "lesser chart", got, want)
			}
		}
	}
	for _, bad := range badCharts() {
		// The other lists alone would be too many steps, and be a chart.
		for _, good := range [][]impl.ChartStep{chart(5, 7), stairs(20, 1, 2, 20, 1), bad} {
			one, first := impl.LesserChart(bad, good)
			two, second := impl.LesserChart(good, bad)
			same(t, "code", first, impl.ErrInvalid)
			same(t, "code", second, impl.ErrInvalid)
			same(t, "steps beside an error", len(one)+len(two), 0)
		}
	}
}

func TestGreatestMoment(t *testing.T) {
	cases := []struct {
		list []impl.ChartStep
		want int64
	}{
		{chart(100, 6000, 300, 2000), 600000}, {chart(1000, 50000), 50000000}, {chart(1, 0), 0}, {chart(10, 0, 20, 0), 0},
		{chart(100, 100, 200, 60, 300, 30), 12000}, {chart(100, 100, 200, 50), 10000}, {chart(1, 10, 1000, 9), 9000}, {chart(1, 50000, 1000, 0), 50000},
	}
	for _, x := range cases {
		got, c := impl.GreatestMoment(x.list)
		same(t, "moment", got, x.want)
		same(t, "code", c, impl.OK)
	}
	for _, list := range badCharts() {
		got, c := impl.GreatestMoment(list)
		same(t, "moment beside an error", got, int64(0))
		same(t, "code", c, impl.ErrInvalid)
	}
}

func TestChartText(t *testing.T) {
	same(t, "text", impl.ChartText(chart(100, 6000, 300, 2000)), "100:6000 300:2000")
	same(t, "text", impl.ChartText(chart(1, 0)), "1:0")
	same(t, "text", impl.ChartText(chart(1, 50000, 1000, 0)), "1:50000 1000:0")
	for _, list := range badCharts() {
		same(t, "text of no chart", impl.ChartText(list), "")
	}
	for _, list := range someCharts() {
		words := []string{}
		for _, step := range list {
			words = append(words, strconv.FormatInt(step.Radius, 10)+":"+strconv.FormatInt(step.Load, 10))
		}
		text := impl.ChartText(list)
		same(t, "text", text, strings.Join(words, " "))
		got, ok := impl.ReadChart(text)
		same(t, "read "+text, ok, true)
		sameChart(t, "read "+text, got, list)
	}
}

func TestReadChartOfOtherTexts(t *testing.T) {
	texts := []string{
		"", " ", ":", "1", "1:", ":1", "1:x", "x:1", "1:1:1", "1::1", "1 :1", "1: 1", " 1:1", "1:1 ", "1:2  2:1", "1:2\t2:1", "1:2\n", "1:2,2:1",
		"01:1", "1:01", "+1:1", "1:+1", "1:-0", "-1:1", "1:-1", "0:1", "1001:1", "1:50001", "2:2 1:1", "1:1 2:2", "1:1 1:1", "1:1 2:x", "x 2:1",
		"1:9999999999999999999", "99999999999999999999:1", "1:1\x00", "\xff", "1:\xff", "1;1", "0x1:1", "1.0:1", "1:1e1", "\u0661:1", "1:1\u00a02:1",
		"1:2 2:1 ", strings.Repeat("1:1 ", 5000), strings.Repeat(" ", 100), strings.Repeat("1", 1000) + ":1",
	}
	for _, s := range texts {
		got, ok := impl.ReadChart(s)
		same(t, "read "+strconv.Quote(s), ok, false)
		same(t, "steps of "+strconv.Quote(s), len(got), 0)
	}
	words := []string{}
	for i := range 21 {
		words = append(words, strconv.Itoa(i+1)+":1")
	}
	_, ok := impl.ReadChart(strings.Join(words, " "))
	same(t, "21 steps", ok, false)
	list, ok := impl.ReadChart(strings.Join(words[:20], " "))
	same(t, "20 steps", ok, true)
	same(t, "20 steps", len(list), 20)
}

// The guarantee of chapter 3: the load in between is between the loads of the steps.
func TestLoadAtIsBetweenSteps(t *testing.T) {
	for _, list := range someCharts() {
		for radius := range last(list) + 1 {
			at, _ := impl.LoadAt(list, radius)
			by, _ := impl.LoadStep(list, radius)
			if at < by {
				t.Errorf("%v at %d: %d is less than %d by steps", list, radius, at, by)
			}
			for _, step := range list {
				if step.Radius < radius && at > step.Load {
					t.Errorf("%v at %d: %d is more than at %d", list, radius, at, step.Radius)
				}
			}
		}
	}
}

// Promise 3: loads never increase with the radius.
func TestPromise3LoadsNeverIncrease(t *testing.T) {
	for _, list := range someCharts() {
		at, by := int64(math.MaxInt64), int64(math.MaxInt64)
		for radius := range last(list) + 1 {
			nextAt, one := impl.LoadAt(list, radius)
			nextBy, two := impl.LoadStep(list, radius)
			same(t, "codes", one+two, impl.OK)
			if nextAt > at || nextBy > by {
				t.Errorf("%v: loads increase before the radius %d", list, radius)
			}
			at, by = nextAt, nextBy
		}
	}
}

// exceeds reports whether a chart gives more than another one at a radius that both have, or has a radius that the other one has not.
func exceeds(list, made []impl.ChartStep) bool {
	for radius := range last(list) + 1 {
		one, first := impl.LoadAt(list, radius)
		two, second := impl.LoadAt(made, radius)
		if first != impl.OK || second != impl.OK || one > two {
			return true
		}
	}
	return false
}

// Promise 3: changed charts never exceed those they are made of, between two steps neither.
func TestPromise3ChangedChartsNeverExceed(t *testing.T) {
	lists := someCharts()
	for _, a := range lists {
		changed := [][]impl.ChartStep{}
		for percent := int64(1); percent <= 100; percent += 11 {
			list, _ := impl.ReduceChart(a, percent)
			changed = append(changed, list)
		}
		for _, weight := range []int64{0, 1, 17, 2500, 50000} {
			list, _ := impl.LessWeight(a, weight)
			changed = append(changed, list)
		}
		for _, list := range changed {
			if !impl.ValidChart(list) || last(list) != last(a) || exceeds(list, a) {
				t.Errorf("%v exceeds %v", list, a)
			}
		}
	}
	made := 0
	for _, a := range lists {
		for _, b := range lists {
			list, c := impl.LesserChart(a, b)
			if c == impl.OK && (!impl.ValidChart(list) || exceeds(list, a) || exceeds(list, b)) {
				t.Errorf("%v exceeds %v or %v", list, a, b)
			}
			if c == impl.OK {
				made++
			}
		}
	}
	if made < len(lists)*len(lists)/2 {
		t.Errorf("only %d charts were made", made)
	}
}

// spare returns a copy of a list with steps in its unused capacity, and all of that memory.
func spare(list []impl.ChartStep) (part, whole []impl.ChartStep) {
	whole = append(slices.Clone(list), chart(900, -1, 901, -2, 902, -3)...)
	return whole[:len(list)], whole
}

// Promise 1: no function changes a chart or its spare memory, and equal charts have equal results.
func TestPromise1Charts(t *testing.T) {
	for _, list := range slices.Concat(goodCharts(), badCharts()) {
		part, whole := spare(list)
		kept := slices.Clone(whole)
		same(t, "ValidChart twice", impl.ValidChart(part), impl.ValidChart(list))
		same(t, "SameChart with itself", impl.SameChart(part, part), true)
		same(t, "ChartText twice", impl.ChartText(part), impl.ChartText(list))
		same(t, "GreatestMoment twice", code(impl.GreatestMoment(part)), code(impl.GreatestMoment(list)))
		for _, x := range chartCalls() {
			for _, n := range edges {
				one, first := x.call(part, n)
				two, second := x.call(slices.Clip(slices.Clone(list)), n)
				same(t, x.name+" twice", one, two)
				same(t, x.name+" twice", first, second)
			}
		}
		one, _ := impl.LesserChart(part, part)
		two, _ := impl.LesserChart(list, list)
		sameChart(t, "LesserChart twice", one, two)
		sameChart(t, "memory of the chart", whole, kept)
	}
}

// Promise 1: charts that are returned share no memory with charts that are given.
func TestPromise1ChartsAreNew(t *testing.T) {
	for _, list := range goodCharts() {
		other := slices.Clone(list)
		kept := slices.Clone(list)
		text := impl.ChartText(list)
		calls := []func() []impl.ChartStep{
			func() []impl.ChartStep { got, _ := impl.ReduceChart(list, 100); return got },
			func() []impl.ChartStep { got, _ := impl.LessWeight(list, 0); return got },
			func() []impl.ChartStep { got, _ := impl.LesserChart(list, other); return got },
			func() []impl.ChartStep { got, _ := impl.LesserChart(list, list); return got },
			func() []impl.ChartStep { got, _ := impl.ReadChart(text); return got },
		}
		for i, call := range calls {
			got := call()
			sameChart(t, "call "+strconv.Itoa(i), got, kept)
			for j := range got[:cap(got)] {
				got[:cap(got)][j] = impl.ChartStep{Radius: -7, Load: -7}
			}
			sameChart(t, "the chart that was given", list, kept)
			sameChart(t, "the other chart that was given", other, kept)
			sameChart(t, "call "+strconv.Itoa(i)+" again", call(), kept)
		}
	}
}
