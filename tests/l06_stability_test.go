package tests

import (
	"math"
	"math/big"
	"math/rand"
	"slices"
	"strconv"
	"testing"

	"loop.example/g00932/impl"
)

// baseOf has its numbers in the order of the fields.
func baseOf(side, mass, ballast, jibMass, jibAt, counter, counterAt int64) impl.Base {
	return impl.Base{Side: side, Mass: mass, Ballast: ballast, JibMass: jibMass, JibAt: jibAt, Counter: counter, CounterAt: counterAt}
}

// plainBase has a mast alone, so that only the load turns it.
func plainBase() impl.Base { return baseOf(20, 1000, 0, 0, 0, 0, 0) }

// backBase has the total 1500 and the moment -50000 without a load.
func backBase() impl.Base { return baseOf(20, 1000, 0, 0, 0, 500, 100) }

// heavyBack is safe only with loads that nearly balance its counterweight.
func heavyBack() impl.Base { return baseOf(10, 1, 0, 0, 0, 20000, 1000) }

// goodBases has bases whose own moments are positive, negative and 0, and all fields at their limits.
func goodBases() []impl.Base {
	return []impl.Base{
		plainBase(), backBase(), heavyBack(), baseOf(20, 1000, 0, 500, 100, 0, 0), baseOf(20, 1000, 0, 500, 100, 500, 100),
		baseOf(10, 1, 0, 0, 0, 0, 0), baseOf(200, 500000, 500000, 500000, 1000, 500000, 1000), baseOf(200, 1, 0, 0, 1000, 0, 1000),
		baseOf(10, 1, 0, 500000, 1000, 0, 0), baseOf(10, 1, 0, 0, 0, 500000, 1000), baseOf(200, 500000, 500000, 500000, 0, 500000, 0),
		baseOf(10, 500000, 500000, 500000, 1000, 500000, 999), baseOf(10, 500000, 500000, 500000, 999, 500000, 1000),
		baseOf(45, 20000, 60000, 9000, 210, 12000, 120), baseOf(45, 20000, 60000, 6000, 210, 15000, 120), baseOf(60, 30000, 0, 8000, 150, 10000, 120),
		baseOf(15, 777, 13, 31, 41, 59, 26), baseOf(199, 499999, 1, 499999, 1, 1, 999), baseOf(11, 2, 1, 1, 1, 1, 2), baseOf(17, 1009, 0, 0, 0, 0, 0),
	}
}

// fieldLimits has the least and the greatest number of each field.
func fieldLimits() [7][2]int64 {
	return [7][2]int64{{10, 200}, {1, 500000}, {0, 500000}, {0, 500000}, {0, 1000}, {0, 500000}, {0, 1000}}
}

func fieldsOf(b impl.Base) [7]int64 {
	return [7]int64{b.Side, b.Mass, b.Ballast, b.JibMass, b.JibAt, b.Counter, b.CounterAt}
}

func withField(b impl.Base, i int, n int64) impl.Base {
	f := fieldsOf(b)
	f[i] = n
	return baseOf(f[0], f[1], f[2], f[3], f[4], f[5], f[6])
}

// badBases has bases of which one field is beyond its limits.
func badBases() []impl.Base {
	list := []impl.Base{{}}
	for i, limits := range fieldLimits() {
		for _, n := range []int64{limits[0] - 1, limits[1] + 1, -limits[1], math.MinInt64, math.MaxInt64} {
			list = append(list, withField(baseOf(45, 20000, 60000, 9000, 210, 12000, 120), i, n))
		}
	}
	return list
}

func randomBase(r *rand.Rand) impl.Base {
	most := []int64{3, 1000, 20000, 500000}[r.Intn(4)]
	mass := func() int64 { return r.Int63n(most + 1) }
	b := baseOf(10+r.Int63n(191), 1+r.Int63n(most), mass(), mass(), r.Int63n(1001), mass(), r.Int63n(1001))
	if r.Intn(3) == 0 {
		// Nearly balanced, so that loads decide which side is heavier.
		b.JibMass, b.JibAt = b.Counter, max(0, b.CounterAt-r.Int63n(3))
	}
	return b
}

func someBases(n int) []impl.Base {
	r := rand.New(rand.NewSource(6))
	list := goodBases()
	for range n {
		list = append(list, randomBase(r))
	}
	return list
}

// total and moment are exact for all valid arguments.
func total(b impl.Base, load int64) int64 {
	return b.Mass + b.Ballast + b.JibMass + b.Counter + load
}

func moment(b impl.Base, load, radius int64) int64 {
	return load*radius + b.JibMass*b.JibAt - b.Counter*b.CounterAt
}

// share is the number of which fractions are compared here: the program computes with whole numbers instead.
func share(num, den int64) *big.Rat { return big.NewRat(num, den) }

func product(a, b *big.Rat) *big.Rat { return new(big.Rat).Mul(a, b) }

// stable compares the safety itself with the percent.
func stable(b impl.Base, load, radius, percent int64) bool {
	m := magnitude(moment(b, load, radius))
	if m == 0 {
		return true
	}
	safety := product(share(total(b, load), m), share(b.Side, 2))
	return safety.Cmp(share(percent, 100)) >= 0
}

// pressure computes as the document tells, with e; nil if the crane falls.
func pressure(b impl.Base, load, radius int64) *big.Rat {
	m := magnitude(moment(b, load, radius))
	e := share(m, total(b, load))
	weight, side := share(total(b, load), 1), share(b.Side, 1)
	if e.Cmp(share(b.Side, 6)) <= 0 {
		sum := product(weight, side)
		sum.Add(sum, share(6*m, 1))
		return sum.Quo(sum, product(side, product(side, side)))
	}
	if e.Cmp(share(b.Side, 2)) >= 0 {
		return nil
	}
	left := new(big.Rat).Sub(side, product(share(2, 1), e))
	return new(big.Rat).Quo(product(share(4, 1), weight), product(product(share(3, 1), side), left))
}

// greatest returns -1 if no load is safe.
func greatest(b impl.Base, radius, percent int64) int64 {
	for n := int64(1000); n >= 0; n-- {
		if stable(b, n*50, radius, percent) {
			return n * 50
		}
	}
	return -1
}

// ballast solves the condition for the total, and returns -1 if no ballast is enough.
func ballast(b impl.Base, load, radius, percent int64) int64 {
	needed := product(share(2*percent*magnitude(moment(b, load, radius)), 1), share(1, 100*b.Side))
	up := new(big.Int).Add(needed.Num(), needed.Denom())
	up.Sub(up, big.NewInt(1)).Quo(up, needed.Denom())
	b.Ballast = 0
	n := max(0, up.Int64()-total(b, load))
	if n > 500000 {
		return -1
	}
	return n
}

func safeSteps(b impl.Base, list []impl.ChartStep, percent int64) []impl.ChartStep {
	steps := []impl.ChartStep{}
	for i, step := range list {
		most := greatest(b, step.Radius, percent)
		load := min(step.Load, most)
		if i > 0 {
			load = min(load, steps[i-1].Load)
		}
		if most < 0 || !stable(b, load, step.Radius, percent) {
			break
		}
		steps = append(steps, impl.ChartStep{Radius: step.Radius, Load: load})
	}
	return steps
}

// sameFraction compares both numbers, so that a fraction that is not in lowest terms is not the same.
func sameFraction(t *testing.T, what string, got impl.Fraction, want *big.Rat) {
	t.Helper()
	same(t, what, got, impl.Fraction{Num: want.Num().Int64(), Den: want.Denom().Int64()})
}

func baseName(b impl.Base) string {
	text := "base"
	for _, n := range fieldsOf(b) {
		text += " " + strconv.FormatInt(n, 10)
	}
	return text
}

func withLoad(b impl.Base, load, radius int64) string {
	return baseName(b) + " with " + impl.Decimal(load) + " at " + impl.Decimal(radius)
}

// radiiBeside has the limits and radii at which a load nearly balances a base, makes it safe, or lets it rise or fall.
func radiiBeside(b impl.Base, load int64) []int64 {
	radii := []int64{0, 1, 500, 999, 1000}
	own, w := moment(b, 0, 0), total(b, load)
	for _, goal := range []int64{0, w * b.Side / 6, w * b.Side / 2, w * b.Side / 3, -w * b.Side / 6, -w * b.Side / 2, -w * b.Side / 3} {
		if load > 0 {
			r := (goal - own) / load
			radii = append(radii, r-1, r, r+1)
		}
	}
	slices.Sort(radii)
	return slices.DeleteFunc(slices.Compact(radii), func(r int64) bool { return !within(r, 0, 1000) })
}

var someLoads = []int64{0, 1, 2, 49, 50, 51, 100, 1000, 2345, 20000, 49950, 49999, 50000}

var somePercents = []int64{100, 101, 150, 200, 333, 999, 1000}

func TestBaseConstants(t *testing.T) { same(t, "MaxMass", impl.MaxMass, 500000) }

func TestValidBase(t *testing.T) {
	for _, b := range someBases(100) {
		same(t, baseName(b), impl.ValidBase(b), true)
	}
	for _, b := range badBases() {
		same(t, baseName(b), impl.ValidBase(b), false)
	}
	for _, b := range goodBases() {
		for i, limits := range fieldLimits() {
			numbers := append([]int64{limits[0] - 1, limits[0], limits[0] + 1, limits[1] - 1, limits[1], limits[1] + 1}, edges...)
			for _, n := range numbers {
				same(t, baseName(withField(b, i, n)), impl.ValidBase(withField(b, i, n)), within(n, limits[0], limits[1]))
			}
		}
	}
}

func TestMomentsAsTold(t *testing.T) {
	jib, back := baseOf(20, 1000, 0, 500, 100, 0, 0), backBase()
	cases := []struct {
		b             impl.Base
		load, radius  int64
		total, moment int64
		offset        impl.Fraction
	}{
		{plainBase(), 100, 50, 1100, 5000, impl.Fraction{Num: 50, Den: 11}},
		{plainBase(), 0, 1000, 1000, 0, impl.Fraction{Num: 0, Den: 1}},
		{plainBase(), 50000, 0, 51000, 0, impl.Fraction{Num: 0, Den: 1}},
		{plainBase(), 50000, 1000, 51000, 50000000, impl.Fraction{Num: 50000, Den: 51}},
		{plainBase(), 1000, 2, 2000, 2000, impl.Fraction{Num: 1, Den: 1}},
		{jib, 0, 0, 1500, 50000, impl.Fraction{Num: 100, Den: 3}},
		{jib, 500, 100, 2000, 100000, impl.Fraction{Num: 50, Den: 1}},
		// The counterweight's side is heavier, both sides are even, and the jib's side is heavier.
		{back, 0, 0, 1500, -50000, impl.Fraction{Num: -100, Den: 3}},
		{back, 100, 499, 1600, -100, impl.Fraction{Num: -1, Den: 16}},
		{back, 100, 500, 1600, 0, impl.Fraction{Num: 0, Den: 1}},
		{back, 100, 501, 1600, 100, impl.Fraction{Num: 1, Den: 16}},
		{back, 500, 0, 2000, -50000, impl.Fraction{Num: -25, Den: 1}},
		{baseOf(20, 1000, 1, 2, 3, 4, 5), 6, 7, 1013, 28, impl.Fraction{Num: 28, Den: 1013}},
		{baseOf(200, 500000, 500000, 500000, 1000, 500000, 0), 50000, 1000, 2050000, 550000000, impl.Fraction{Num: 11000, Den: 41}},
		{baseOf(200, 500000, 500000, 500000, 0, 500000, 1000), 50000, 0, 2050000, -500000000, impl.Fraction{Num: -10000, Den: 41}},
		{baseOf(10, 1, 0, 0, 0, 500000, 1000), 0, 0, 500001, -500000000, impl.Fraction{Num: -500000000, Den: 500001}},
	}
	for _, x := range cases {
		what := withLoad(x.b, x.load, x.radius)
		w, one := impl.TotalMass(x.b, x.load)
		m, two := impl.MomentOf(x.b, x.load, x.radius)
		e, three := impl.OffsetOf(x.b, x.load, x.radius)
		same(t, "total: "+what, w, x.total)
		same(t, "moment: "+what, m, x.moment)
		same(t, "offset: "+what, e, x.offset)
		same(t, "codes: "+what, [3]int64{one, two, three}, [3]int64{})
	}
}

// checkStance compares all functions of a base with a load with the document's formulas.
func checkStance(t *testing.T, b impl.Base, load, radius int64) {
	t.Helper()
	what, m := withLoad(b, load, radius), moment(b, load, radius)
	w, c := impl.TotalMass(b, load)
	same(t, "total: "+what, [2]int64{w, c}, [2]int64{total(b, load), impl.OK})
	got, c := impl.MomentOf(b, load, radius)
	same(t, "moment: "+what, [2]int64{got, c}, [2]int64{m, impl.OK})
	f, c := impl.OffsetOf(b, load, radius)
	sameFraction(t, "offset: "+what, f, share(m, total(b, load)))
	same(t, "code of offset: "+what, c, impl.OK)
	f, c = impl.SafetyOf(b, load, radius)
	if m == 0 {
		same(t, "no safety: "+what, f, impl.Fraction{})
		same(t, "code of no safety: "+what, c, impl.ErrState)
	} else {
		sameFraction(t, "safety: "+what, f, share(total(b, load)*b.Side, 2*magnitude(m)))
		same(t, "code of safety: "+what, c, impl.OK)
	}
	f, c = impl.PressureOf(b, load, radius)
	if want := pressure(b, load, radius); want == nil {
		same(t, "no pressure: "+what, f, impl.Fraction{})
		same(t, "code of no pressure: "+what, c, impl.ErrUnsafe)
	} else {
		sameFraction(t, "pressure: "+what, f, want)
		same(t, "code of pressure: "+what, c, impl.OK)
	}
	for _, percent := range somePercents {
		ok, c := impl.IsStable(b, load, radius, percent)
		same(t, "stable by "+impl.Decimal(percent)+": "+what, ok, stable(b, load, radius, percent))
		same(t, "code of stable: "+what, c, impl.OK)
	}
}

// The signs of the moments, and the parts of the pressure, are counted, so that none of them is left out.
func TestLoadedBases(t *testing.T) {
	signs, rising := map[int64]int{}, map[string]int{}
	for _, b := range someBases(150) {
		for _, load := range someLoads {
			for _, radius := range radiiBeside(b, load) {
				checkStance(t, b, load, radius)
				m := moment(b, load, radius)
				signs[sign(m)]++
				part := "flat"
				if m != 0 && 6*magnitude(m) > total(b, load)*b.Side {
					part = "rises"
				}
				if pressure(b, load, radius) == nil {
					part = "falls"
				}
				rising[part+impl.Decimal(sign(m))]++
			}
		}
	}
	for _, n := range []int64{-1, 0, 1} {
		same(t, "moments of the sign "+impl.Decimal(n), signs[n] >= 50, true)
	}
	for _, part := range []string{"flat-1", "flat0", "flat1", "rises-1", "rises1", "falls-1", "falls1"} {
		same(t, part, rising[part] >= 50, true)
	}
}

func TestSafetyAsTold(t *testing.T) {
	cases := []struct {
		b            impl.Base
		load, radius int64
		want         impl.Fraction
		code         int64
	}{
		{plainBase(), 100, 50, impl.Fraction{Num: 11, Den: 5}, impl.OK},
		{plainBase(), 100, 110, impl.Fraction{Num: 1, Den: 1}, impl.OK},
		{plainBase(), 100, 11, impl.Fraction{Num: 10, Den: 1}, impl.OK},
		{plainBase(), 0, 50, impl.Fraction{}, impl.ErrState},
		{plainBase(), 50, 0, impl.Fraction{}, impl.ErrState},
		// The load takes a part of the counterweight's moment, all of it, or more.
		{backBase(), 0, 0, impl.Fraction{Num: 3, Den: 10}, impl.OK},
		{backBase(), 100, 400, impl.Fraction{Num: 8, Den: 5}, impl.OK},
		{backBase(), 100, 500, impl.Fraction{}, impl.ErrState},
		{backBase(), 100, 600, impl.Fraction{Num: 8, Den: 5}, impl.OK},
		{backBase(), 100, 1000, impl.Fraction{Num: 8, Den: 25}, impl.OK},
		{baseOf(20, 1000, 0, 500, 100, 500, 100), 0, 0, impl.Fraction{}, impl.ErrState},
		{baseOf(10, 1, 0, 0, 0, 500000, 1000), 0, 0, impl.Fraction{Num: 500001, Den: 100000000}, impl.OK},
		{baseOf(200, 500000, 500000, 499999, 1, 499999, 1), 1, 1, impl.Fraction{Num: 199999900, Den: 1}, impl.OK},
	}
	for _, x := range cases {
		got, c := impl.SafetyOf(x.b, x.load, x.radius)
		same(t, "safety: "+withLoad(x.b, x.load, x.radius), got, x.want)
		same(t, "code: "+withLoad(x.b, x.load, x.radius), c, x.code)
	}
}

func TestIsStableAsTold(t *testing.T) {
	cases := []struct {
		b                     impl.Base
		load, radius, percent int64
		want                  bool
	}{
		{plainBase(), 100, 50, 220, true}, {plainBase(), 100, 50, 221, false}, {plainBase(), 100, 110, 100, true}, {plainBase(), 100, 111, 100, false},
		{plainBase(), 100, 11, 1000, true}, {plainBase(), 100, 12, 1000, false}, {plainBase(), 0, 1000, 1000, true}, {plainBase(), 50000, 0, 1000, true},
		{backBase(), 0, 0, 100, false}, {backBase(), 100, 339, 100, false}, {backBase(), 100, 340, 100, true}, {backBase(), 100, 500, 1000, true},
		{backBase(), 100, 400, 160, true}, {backBase(), 100, 400, 161, false}, {backBase(), 100, 600, 160, true}, {backBase(), 100, 600, 161, false},
		{backBase(), 100, 660, 100, true}, {backBase(), 100, 661, 100, false},
	}
	for _, x := range cases {
		got, c := impl.IsStable(x.b, x.load, x.radius, x.percent)
		same(t, "stable by "+impl.Decimal(x.percent)+": "+withLoad(x.b, x.load, x.radius), got, x.want)
		same(t, "code: "+withLoad(x.b, x.load, x.radius), c, impl.OK)
	}
}

func TestPressureAsTold(t *testing.T) {
	back := baseOf(20, 1000, 0, 0, 0, 50, 70)
	cases := []struct {
		b            impl.Base
		load, radius int64
		want         impl.Fraction
		code         int64
	}{
		{plainBase(), 20, 50, impl.Fraction{Num: 33, Den: 10}, impl.OK},
		{plainBase(), 100, 50, impl.Fraction{Num: 121, Den: 18}, impl.OK},
		{plainBase(), 0, 1000, impl.Fraction{Num: 5, Den: 2}, impl.OK},
		{plainBase(), 50000, 0, impl.Fraction{Num: 255, Den: 2}, impl.OK},
		// A sixth of the side is 10/3, which is no whole number: just below it, exactly at it, and just above it.
		{plainBase(), 50, 64, impl.Fraction{Num: 201, Den: 40}, impl.OK},
		{plainBase(), 50, 69, impl.Fraction{Num: 417, Den: 80}, impl.OK},
		{plainBase(), 50, 70, impl.Fraction{Num: 21, Den: 4}, impl.OK},
		{plainBase(), 50, 71, impl.Fraction{Num: 735, Den: 139}, impl.OK},
		{back, 0, 0, impl.Fraction{Num: 21, Den: 4}, impl.OK},
		{withField(back, 6, 69), 0, 0, impl.Fraction{Num: 417, Den: 80}, impl.OK},
		{withField(back, 6, 71), 0, 0, impl.Fraction{Num: 735, Den: 139}, impl.OK},
		// Half of the side.
		{plainBase(), 100, 109, impl.Fraction{Num: 1210, Den: 3}, impl.OK},
		{plainBase(), 100, 110, impl.Fraction{}, impl.ErrUnsafe},
		{plainBase(), 100, 111, impl.Fraction{}, impl.ErrUnsafe},
		{plainBase(), 300, 50, impl.Fraction{}, impl.ErrUnsafe},
		{baseOf(20, 1000, 0, 0, 0, 100, 109), 0, 0, impl.Fraction{Num: 1210, Den: 3}, impl.OK},
		{baseOf(20, 1000, 0, 0, 0, 100, 110), 0, 0, impl.Fraction{}, impl.ErrUnsafe},
		{baseOf(20, 1000, 0, 0, 0, 100, 111), 0, 0, impl.Fraction{}, impl.ErrUnsafe},
		// The crane falls over its counterweight without a load, and over its jib with too much of it.
		{backBase(), 100, 340, impl.Fraction{}, impl.ErrUnsafe},
		{backBase(), 100, 341, impl.Fraction{Num: 2560, Den: 3}, impl.OK},
		{backBase(), 100, 500, impl.Fraction{Num: 4, Den: 1}, impl.OK},
		{backBase(), 100, 659, impl.Fraction{Num: 2560, Den: 3}, impl.OK},
		{backBase(), 100, 660, impl.Fraction{}, impl.ErrUnsafe},
		{baseOf(200, 500000, 500000, 500000, 1000, 500000, 1000), 50000, 0, impl.Fraction{Num: 205, Den: 4}, impl.OK},
		{baseOf(15, 999, 0, 0, 0, 1, 1000), 0, 0, impl.Fraction{Num: 56, Den: 9}, impl.OK},
	}
	for _, x := range cases {
		got, c := impl.PressureOf(x.b, x.load, x.radius)
		same(t, "pressure: "+withLoad(x.b, x.load, x.radius), got, x.want)
		same(t, "code: "+withLoad(x.b, x.load, x.radius), c, x.code)
	}
}

// With the total w and the side s, a moment of exactly w*s/6 or w*s/2 comes from a load of 1 and a mass of 6*n-1 or 2*n-1.
func TestPressureAtTheBordersOfManySides(t *testing.T) {
	for side := int64(10); side <= 200; side++ {
		for n := int64(1); n*side < 1000; n += 7 {
			for _, parts := range []int64{6, 2} {
				for d := int64(-1); d <= 1; d++ {
					jib := baseOf(side, parts*n, 0, 0, 0, 0, 0)
					jib.Mass--
					back := jib
					back.Counter, back.CounterAt = 1, n*side+d
					checkStance(t, jib, 1, n*side+d)
					checkStance(t, back, 0, 1000)
					f, c := impl.PressureOf(jib, 1, n*side+d)
					mirrored, too := impl.PressureOf(back, 0, 0)
					same(t, "pressure of a counterweight like the load", mirrored, f)
					same(t, "code of a counterweight like the load", too, c)
					same(t, "the crane falls", c == impl.ErrUnsafe, parts == 2 && d >= 0)
				}
			}
		}
	}
}

func TestLeastBallastAsTold(t *testing.T) {
	cases := []struct {
		b                     impl.Base
		load, radius, percent int64
		want, code            int64
	}{
		{plainBase(), 100, 50, 300, 400, impl.OK},
		{plainBase(), 100, 50, 100, 0, impl.OK},
		{plainBase(), 100, 50, 220, 0, impl.OK},
		{plainBase(), 100, 50, 221, 5, impl.OK},
		{plainBase(), 0, 1000, 1000, 0, impl.OK},
		// What b itself has of it does not count.
		{withField(plainBase(), 2, 7), 100, 50, 300, 400, impl.OK},
		{withField(plainBase(), 2, 500000), 100, 50, 300, 400, impl.OK},
		// The counterweight's side is heavier: without a load, with a part of it, and with too much of it.
		{backBase(), 0, 0, 100, 3500, impl.OK},
		{backBase(), 100, 400, 160, 0, impl.OK},
		{backBase(), 100, 400, 161, 10, impl.OK},
		{backBase(), 100, 500, 1000, 0, impl.OK},
		{backBase(), 100, 600, 161, 10, impl.OK},
		{backBase(), 100, 1000, 100, 3400, impl.OK},
		// A part of a kilogram is not enough.
		{baseOf(30, 1, 0, 0, 0, 0, 0), 1, 32, 100, 1, impl.OK},
		{baseOf(30, 1, 0, 0, 0, 0, 0), 1, 30, 100, 0, impl.OK},
		{baseOf(30, 1, 0, 0, 0, 0, 0), 1, 31, 100, 1, impl.OK},
		// Exactly the greatest one, one less, and one too little.
		{plainBase(), 10000, 511, 100, 500000, impl.OK},
		{withField(plainBase(), 1, 1001), 10000, 511, 100, 499999, impl.OK},
		{withField(plainBase(), 1, 999), 10000, 511, 100, 0, impl.ErrNotFound},
		{plainBase(), 10000, 511, 101, 0, impl.ErrNotFound},
		{plainBase(), 10000, 512, 100, 0, impl.ErrNotFound},
		{baseOf(20, 1000, 0, 0, 0, 10000, 511), 0, 1000, 100, 500000, impl.OK},
		{baseOf(20, 999, 0, 0, 0, 10000, 511), 0, 1000, 100, 0, impl.ErrNotFound},
		{baseOf(20, 999, 500000, 0, 0, 10000, 511), 0, 1000, 100, 0, impl.ErrNotFound},
	}
	for _, x := range cases {
		what := "ballast for " + impl.Decimal(x.percent) + ": " + withLoad(x.b, x.load, x.radius)
		got, c := impl.LeastBallast(x.b, x.load, x.radius, x.percent)
		same(t, what, got, x.want)
		same(t, "code of "+what, c, x.code)
	}
}

// stableWith tells whether a base is stable with another ballast.
func stableWith(t *testing.T, b impl.Base, n, load, radius, percent int64) bool {
	t.Helper()
	b.Ballast = n
	ok, c := impl.IsStable(b, load, radius, percent)
	same(t, "code of IsStable: "+withLoad(b, load, radius), c, impl.OK)
	return ok
}

// Promise 6: the least ballast is enough, and no less is; where there is none, even the greatest one is too little.
func TestPromise6LeastBallast(t *testing.T) {
	r := rand.New(rand.NewSource(66))
	seen := map[string]int{}
	for _, b := range someBases(150) {
		for _, load := range someLoads {
			for _, radius := range radiiBeside(b, load) {
				percent := somePercents[r.Intn(len(somePercents))]
				what := "ballast for " + impl.Decimal(percent) + ": " + withLoad(b, load, radius)
				n, c := impl.LeastBallast(b, load, radius, percent)
				want := ballast(b, load, radius, percent)
				if c != impl.OK {
					seen["none"]++
					same(t, "no "+what, [3]int64{n, c, want}, [3]int64{0, impl.ErrNotFound, -1})
					same(t, "stable with the greatest "+what, stableWith(t, b, 500000, load, radius, percent), false)
					continue
				}
				same(t, what, n, want)
				same(t, "stable with "+what, stableWith(t, b, n, load, radius, percent), true)
				if n == 0 {
					seen["zero"]++
					continue
				}
				seen["some"+impl.Decimal(sign(moment(b, load, radius)))]++
				for _, less := range []int64{n - 1, n / 2, r.Int63n(n), 0} {
					same(t, "stable with less "+what, stableWith(t, b, less, load, radius, percent), false)
				}
			}
		}
	}
	for _, kind := range []string{"none", "zero", "some-1", "some1"} {
		same(t, "ballasts: "+kind, seen[kind] >= 50, true)
	}
}

func TestGreatestLoadAsTold(t *testing.T) {
	cases := []struct {
		b               impl.Base
		radius, percent int64
		want, code      int64
	}{
		{plainBase(), 50, 100, 250, impl.OK},
		{plainBase(), 0, 1000, 50000, impl.OK},
		{plainBase(), 10, 100, 50000, impl.OK},
		{plainBase(), 11, 100, 10000, impl.OK},
		{plainBase(), 110, 100, 100, impl.OK},
		{plainBase(), 111, 100, 50, impl.OK},
		{plainBase(), 210, 100, 50, impl.OK},
		{plainBase(), 211, 100, 0, impl.OK},
		{plainBase(), 1000, 1000, 0, impl.OK},
		// The jib alone is too heavy, but a load at the mast holds it.
		{baseOf(20, 1000, 0, 500, 100, 0, 0), 100, 100, 0, impl.ErrNotFound},
		{baseOf(20, 1000, 0, 500, 100, 0, 0), 0, 100, 50000, impl.OK},
		{baseOf(20, 1000, 0, 500, 100, 0, 0), 9, 100, 50000, impl.OK},
		{baseOf(20, 1000, 0, 500, 100, 0, 0), 10, 100, 0, impl.ErrNotFound},
		{baseOf(10, 1, 0, 500000, 1000, 0, 0), 1000, 100, 0, impl.ErrNotFound},
		// At 100, less than 319 is too little for the counterweight, and more than 722 is too much.
		{backBase(), 100, 100, 700, impl.OK},
		{backBase(), 0, 100, 50000, impl.OK},
		{backBase(), 1000, 100, 50, impl.OK},
		{backBase(), 1000, 200, 50, impl.OK},
		{backBase(), 500, 1000, 100, impl.OK},
		{backBase(), 490, 1000, 100, impl.OK},
		{backBase(), 590, 1000, 0, impl.ErrNotFound},
		// The loads from 65 to 68 are the only safe ones, and none of them is tried.
		{backBase(), 750, 1000, 0, impl.ErrNotFound},
		{heavyBack(), 1, 100, 0, impl.ErrNotFound},
		{heavyBack(), 1000, 100, 20200, impl.OK},
		{heavyBack(), 400, 100, 50000, impl.OK},
		{heavyBack(), 393, 100, 50000, impl.OK},
		{heavyBack(), 392, 100, 0, impl.ErrNotFound},
		{baseOf(10, 1, 0, 0, 0, 500000, 1000), 1000, 100, 0, impl.ErrNotFound},
	}
	for _, x := range cases {
		what := "greatest load at " + impl.Decimal(x.radius) + " by " + impl.Decimal(x.percent) + ": " + baseName(x.b)
		got, c := impl.GreatestLoad(x.b, x.radius, x.percent)
		same(t, what, got, x.want)
		same(t, "code of "+what, c, x.code)
	}
}

func TestGreatestLoadOfManyBases(t *testing.T) {
	r := rand.New(rand.NewSource(67))
	seen := map[string]int{}
	for _, b := range someBases(60) {
		for _, radius := range []int64{0, 1, r.Int63n(1001), r.Int63n(1001), 1000} {
			percent := somePercents[r.Intn(len(somePercents))]
			what := "greatest load at " + impl.Decimal(radius) + " by " + impl.Decimal(percent) + ": " + baseName(b)
			got, c := impl.GreatestLoad(b, radius, percent)
			switch want := greatest(b, radius, percent); want {
			case -1:
				seen["none"]++
				same(t, "no "+what, [2]int64{got, c}, [2]int64{0, impl.ErrNotFound})
			default:
				if want > 0 && !stable(b, 0, radius, percent) {
					seen["none without a load"]++
				}
				seen["some"]++
				same(t, what, [2]int64{got, c}, [2]int64{want, impl.OK})
			}
		}
	}
	for _, kind := range []string{"none", "none without a load", "some"} {
		same(t, "greatest loads: "+kind, seen[kind] >= 5, true)
	}
}

func TestSafeChartAsTold(t *testing.T) {
	jib := baseOf(20, 1000, 0, 500, 100, 0, 0)
	cases := []struct {
		b          impl.Base
		list       []impl.ChartStep
		percent    int64
		want       []impl.ChartStep
		resultCode int64
	}{
		{plainBase(), chart(50, 1000, 100, 100, 300, 10), 100, chart(50, 250, 100, 100, 300, 0), impl.OK},
		// Everything is left: loads that are no multiples of 50 as well.
		{plainBase(), chart(10, 50000, 20, 777, 300, 0), 100, chart(10, 50000, 20, 777, 300, 0), impl.OK},
		{plainBase(), stairs(20, 1, 1, 20, 1), 1000, stairs(20, 1, 1, 20, 1), impl.OK},
		{plainBase(), chart(1000, 0), 1000, chart(1000, 0), impl.OK},
		// The greatest loads are less than those of the chart, or equal to them, and the load before is as small as the next one.
		{plainBase(), chart(50, 251, 51, 250), 100, chart(50, 250, 51, 200), impl.OK},
		{plainBase(), chart(50, 250, 51, 200, 52, 200), 100, chart(50, 250, 51, 200, 52, 200), impl.OK},
		{plainBase(), chart(44, 9000, 45, 9000, 46, 8000, 47, 7000), 100, chart(44, 250, 45, 250, 46, 250, 47, 250), impl.OK},
		{plainBase(), chart(211, 50000, 1000, 50000), 100, chart(211, 0, 1000, 0), impl.OK},
		// The counterweight's side is heavier: the loads are lessened, or are too small, be they before or behind others.
		{backBase(), chart(100, 6000, 101, 5000, 110, 5000), 100, chart(100, 700, 101, 700, 110, 650), impl.OK},
		{backBase(), chart(100, 319), 100, chart(100, 319), impl.OK},
		{backBase(), chart(100, 318), 100, nil, impl.ErrNotFound},
		{backBase(), chart(100, 400, 150, 100), 100, chart(100, 400), impl.OK},
		{backBase(), chart(100, 400, 110, 100, 500, 100), 100, chart(100, 400), impl.OK},
		{backBase(), chart(110, 100, 500, 100), 100, nil, impl.ErrNotFound},
		{backBase(), chart(500, 100), 100, chart(500, 100), impl.OK},
		{heavyBack(), chart(1, 50000, 1000, 20000), 100, nil, impl.ErrNotFound},
		{heavyBack(), chart(1000, 20000), 100, chart(1000, 20000), impl.OK},
		{heavyBack(), chart(1000, 50000), 100, chart(1000, 20200), impl.OK},
		{heavyBack(), chart(1000, 0), 100, nil, impl.ErrNotFound},
		// The jib's side is heavier: a load near the mast holds it, and none does farther out.
		{jib, chart(5, 50000, 9, 50000, 10, 50000), 100, chart(5, 50000, 9, 50000), impl.OK},
		{jib, chart(5, 50000, 9, 30000), 100, chart(5, 50000), impl.OK},
		{jib, chart(10, 50000, 11, 0), 100, nil, impl.ErrNotFound},
		{backBase(), chart(590, 100, 600, 100), 1000, nil, impl.ErrNotFound},
		{backBase(), chart(510, 100, 590, 100, 600, 100), 1000, chart(510, 100), impl.OK},
	}
	for i, x := range cases {
		got, c := impl.SafeChart(x.b, x.list, x.percent)
		sameChart(t, "safe chart "+strconv.Itoa(i), got, x.want)
		same(t, "code of safe chart "+strconv.Itoa(i), c, x.resultCode)
	}
}

func TestSafeChartOfManyBases(t *testing.T) {
	r := rand.New(rand.NewSource(68))
	seen := map[string]int{}
	for _, b := range someBases(100) {
		for range 2 {
			list := randomChart(r)
			percent := somePercents[r.Intn(len(somePercents))]
			what := "safe part by " + impl.Decimal(percent) + " of " + impl.ChartText(list) + ": " + baseName(b)
			got, c := impl.SafeChart(b, list, percent)
			want := safeSteps(b, list, percent)
			sameChart(t, what, got, want)
			if len(want) == 0 {
				seen["nothing"]++
				same(t, "code without a "+what, c, impl.ErrNotFound)
				continue
			}
			same(t, "code of "+what, c, impl.OK)
			same(t, "a chart is the "+what, impl.ValidChart(got), true)
			switch {
			case slices.Equal(list, got):
				seen["everything"]++
			case len(got) == len(list):
				seen["lessened"]++
			default:
				seen["a part"]++
			}
		}
	}
	for _, kind := range []string{"nothing", "everything", "lessened", "a part"} {
		same(t, "safe charts: "+kind, seen[kind] >= 3, true)
	}
}

func TestBaseText(t *testing.T) {
	same(t, "plain", impl.BaseText(plainBase()), "side 20 mass 1000 ballast 0 jib 0 at 0 counter 0 at 0")
	same(t, "all fields", impl.BaseText(baseOf(11, 22, 33, 44, 55, 66, 77)), "side 11 mass 22 ballast 33 jib 44 at 55 counter 66 at 77")
	same(t, "greatest", impl.BaseText(baseOf(200, 500000, 500000, 500000, 1000, 500000, 1000)), "side 200 mass 500000 ballast 500000 jib 500000 at 1000 counter 500000 at 1000")
	same(t, "least", impl.BaseText(baseOf(10, 1, 0, 0, 0, 0, 0)), "side 10 mass 1 ballast 0 jib 0 at 0 counter 0 at 0")
	for _, b := range badBases() {
		same(t, baseName(b), impl.BaseText(b), "")
	}
}

// baseCall is one call with all that it takes, and tells which of the numbers it looks at.
type baseCall struct {
	name                  string
	load, radius, percent bool
	call                  func(b impl.Base, list []impl.ChartStep, load, radius, percent int64) (result string, code int64)
}

func fractionText(f impl.Fraction, c int64) (string, int64) {
	return impl.Decimal(f.Num) + "/" + impl.Decimal(f.Den), c
}

func numberText(n, c int64) (string, int64) { return impl.Decimal(n), c }

// zeroText has the zero values of the results of the calls.
var zeroText = []string{"0", "0/0", "false", ""}

func baseCalls() []baseCall {
	return []baseCall{
		{"TotalMass", true, false, false, func(b impl.Base, _ []impl.ChartStep, load, _, _ int64) (string, int64) {
			return numberText(impl.TotalMass(b, load))
		}},
		{"MomentOf", true, true, false, func(b impl.Base, _ []impl.ChartStep, load, radius, _ int64) (string, int64) {
			return numberText(impl.MomentOf(b, load, radius))
		}},
		{"OffsetOf", true, true, false, func(b impl.Base, _ []impl.ChartStep, load, radius, _ int64) (string, int64) {
			return fractionText(impl.OffsetOf(b, load, radius))
		}},
		{"SafetyOf", true, true, false, func(b impl.Base, _ []impl.ChartStep, load, radius, _ int64) (string, int64) {
			return fractionText(impl.SafetyOf(b, load, radius))
		}},
		{"IsStable", true, true, true, func(b impl.Base, _ []impl.ChartStep, load, radius, percent int64) (string, int64) {
			ok, c := impl.IsStable(b, load, radius, percent)
			return strconv.FormatBool(ok), c
		}},
		{"PressureOf", true, true, false, func(b impl.Base, _ []impl.ChartStep, load, radius, _ int64) (string, int64) {
			return fractionText(impl.PressureOf(b, load, radius))
		}},
		{"LeastBallast", true, true, true, func(b impl.Base, _ []impl.ChartStep, load, radius, percent int64) (string, int64) {
			return numberText(impl.LeastBallast(b, load, radius, percent))
		}},
		{"GreatestLoad", false, true, true, func(b impl.Base, _ []impl.ChartStep, _, radius, percent int64) (string, int64) {
			return numberText(impl.GreatestLoad(b, radius, percent))
		}},
		{"SafeChart", false, false, true, func(b impl.Base, list []impl.ChartStep, _, _, percent int64) (string, int64) {
			got, c := impl.SafeChart(b, list, percent)
			text := ""
			for _, step := range got {
				text += impl.Decimal(step.Radius) + ":" + impl.Decimal(step.Load) + " "
			}
			return text, c
		}},
	}
}

// numberTriples has loads, radii and percents of which none, one or more are beyond their limits.
func numberTriples() [][3]int64 {
	loads := []int64{-1, 0, 50000, 50001, math.MinInt64, math.MaxInt64}
	radii := []int64{-1, 0, 1000, 1001, math.MinInt64, math.MaxInt64}
	percents := []int64{99, 100, 1000, 1001, 0, -100, math.MinInt64, math.MaxInt64}
	list := [][3]int64{{100, 50, 200}}
	for _, load := range loads {
		for _, radius := range radii {
			for _, percent := range percents {
				list = append(list, [3]int64{load, radius, percent})
			}
		}
	}
	return list
}

func TestBaseErrorOrder(t *testing.T) {
	good := []impl.Base{plainBase(), backBase(), baseOf(10, 1, 0, 500000, 1000, 0, 0), baseOf(200, 500000, 500000, 500000, 1000, 500000, 1000)}
	for _, x := range baseCalls() {
		for _, n := range numberTriples() {
			what := x.name + " of " + numbersText(n[:], 0)
			wrong := x.load && !within(n[0], 0, 50000) || x.radius && !within(n[1], 0, 1000) || x.percent && !within(n[2], 100, 1000)
			for _, b := range badBases() {
				got, c := x.call(b, chart(100, 6000, 300, 2000), n[0], n[1], n[2])
				same(t, what+" with no "+baseName(b), c, impl.ErrInvalid)
				same(t, what+" beside an error", slices.Contains(zeroText, got), true)
			}
			for _, b := range good {
				got, c := x.call(b, chart(100, 6000, 300, 2000), n[0], n[1], n[2])
				same(t, what+" with "+baseName(b), c == impl.ErrRange, wrong)
				same(t, what+" with a good "+baseName(b), c == impl.ErrInvalid, false)
				if c != impl.OK {
					same(t, what+" beside an error", slices.Contains(zeroText, got), true)
				}
			}
		}
	}
}

func TestSafeChartErrorOrder(t *testing.T) {
	for _, percent := range append([]int64{99, 100, 101}, edges...) {
		for _, list := range badCharts() {
			got, c := impl.SafeChart(plainBase(), list, percent)
			same(t, "code without a chart", c, impl.ErrInvalid)
			same(t, "steps without a chart", len(got), 0)
		}
		for _, list := range goodCharts() {
			_, c := impl.SafeChart(baseOf(200, 500000, 0, 0, 0, 0, 0), list, percent)
			same(t, "code by "+impl.Decimal(percent), c == impl.ErrRange, !within(percent, 100, 1000))
			got, c := impl.SafeChart(baseOf(9, 500000, 0, 0, 0, 0, 0), list, percent)
			same(t, "code without a base", c, impl.ErrInvalid)
			same(t, "steps without a base", len(got), 0)
		}
	}
}

// Promise 1: every function returns for all arguments, changes no chart or its spare memory, and has equal results for equal arguments.
func TestPromise1Stability(t *testing.T) {
	lists := slices.Concat(goodCharts(), badCharts())
	bases := slices.Concat(goodBases(), badBases())
	for i, b := range bases {
		for k, list := range lists {
			part, whole := spare(list)
			kept := slices.Clone(whole)
			for j := range 4 {
				at := i*5 + k*3 + j*7
				load, radius, percent := edges[at%len(edges)], edges[(at*3+1)%len(edges)], edges[(at*5+2)%len(edges)]
				if j == 0 {
					load, radius, percent = someLoads[at%len(someLoads)], int64(at%1001), somePercents[at%len(somePercents)]
				}
				for _, x := range baseCalls() {
					one, first := x.call(b, part, load, radius, percent)
					two, second := x.call(b, slices.Clip(slices.Clone(list)), load, radius, percent)
					same(t, x.name+" twice", one, two)
					same(t, "code of "+x.name+" twice", first, second)
				}
			}
			sameChart(t, "memory of the chart", whole, kept)
		}
		same(t, "ValidBase twice", impl.ValidBase(b), impl.ValidBase(b))
		same(t, "BaseText twice", impl.BaseText(b), impl.BaseText(b))
	}
}

// Promise 1: a chart that is returned shares no memory with the one that is given, even if everything of it is left.
func TestPromise1SafeChartsAreNew(t *testing.T) {
	for _, list := range [][]impl.ChartStep{chart(1, 0), chart(10, 50000, 20, 777, 300, 0), stairs(20, 1, 1, 20, 1)} {
		part, whole := spare(list)
		kept := slices.Clone(whole)
		for range 2 {
			got, c := impl.SafeChart(plainBase(), part, 100)
			same(t, "code", c, impl.OK)
			sameChart(t, "everything is left", got, list)
			for i := range got[:cap(got)] {
				got[:cap(got)][i] = impl.ChartStep{Radius: -7, Load: -7}
			}
			sameChart(t, "memory of the chart that was given", whole, kept)
		}
	}
}
