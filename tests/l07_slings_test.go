package tests

import (
	"math"
	"math/big"
	"math/rand"
	"slices"
	"strconv"
	"strings"
	"testing"

	"loop.example/g00932/impl"
)

// slingOf has its numbers in the order of the fields.
func slingOf(legs, span, rise, mass int64) impl.Sling {
	return impl.Sling{Legs: legs, Span: span, Rise: rise, Mass: mass}
}

// goodSlings has all numbers of legs, all classes, and all fields at their limits.
func goodSlings() []impl.Sling {
	list := []impl.Sling{slingOf(1, 0, 1, 0), slingOf(1, 0, 4, 5), slingOf(1, 0, 399, 999), slingOf(1, 0, 400, 1000)}
	for legs := int64(2); legs <= 4; legs++ {
		for _, x := range [][2]int64{
			{0, 1}, {0, 400}, {1, 1}, {400, 1}, {399, 2}, {400, 400}, {6, 4}, {6, 3}, {8, 4}, {9, 4}, {13, 4}, {14, 4}, {7, 12}, {8, 12}, {6, 12},
			{400, 200}, {400, 199}, {400, 116}, {400, 115}, {399, 116}, {399, 115}, {300, 100}, {123, 45}, {31, 89},
		} {
			list = append(list, slingOf(legs, x[0], x[1], x[0]*x[1]%1001))
		}
	}
	return list
}

// badSlings has slings of which one field is beyond its limits, and single legs with a span.
func badSlings() []impl.Sling {
	list := []impl.Sling{{}, slingOf(1, 1, 4, 0), slingOf(1, 400, 4, 0), slingOf(1, -1, 4, 0), slingOf(1, 6, 4, 12)}
	for _, good := range []impl.Sling{slingOf(1, 0, 4, 12), slingOf(2, 6, 4, 12), slingOf(3, 14, 4, 12), slingOf(4, 400, 400, 1000)} {
		for _, n := range []int64{0, 5, -1, -good.Legs} {
			list = append(list, slingOf(n, good.Span, good.Rise, good.Mass))
		}
		for _, n := range []int64{-1, 401, -good.Span - 1} {
			list = append(list, slingOf(good.Legs, n, good.Rise, good.Mass))
		}
		for _, n := range []int64{0, -1, 401, -good.Rise} {
			list = append(list, slingOf(good.Legs, good.Span, n, good.Mass))
		}
		for _, n := range []int64{-1, 1001, -good.Mass} {
			list = append(list, slingOf(good.Legs, good.Span, good.Rise, n))
		}
		for _, n := range []int64{math.MinInt64, math.MaxInt64, 1 << 32, 1 << 62} {
			list = append(list, slingOf(n, good.Span, good.Rise, good.Mass), slingOf(good.Legs, n, good.Rise, good.Mass),
				slingOf(good.Legs, good.Span, n, good.Mass), slingOf(good.Legs, good.Span, good.Rise, n), slingOf(n, n, n, n))
		}
	}
	return list
}

func randomSling(r *rand.Rand) impl.Sling {
	most := []int64{5, 40, 400}[r.Intn(3)]
	s := slingOf(1+r.Int63n(4), r.Int63n(most+1), 1+r.Int63n(most), r.Int63n([]int64{3, 30, 1001}[r.Intn(3)]))
	if s.Legs == 1 {
		s.Span = 0
	}
	return s
}

func someSlings(n int) []impl.Sling {
	r := rand.New(rand.NewSource(7))
	list := goodSlings()
	for range n {
		list = append(list, randomSling(r))
	}
	return list
}

// allShapes has each number of legs, span and rise that a sling may have.
func allShapes(yield func(s impl.Sling) bool) {
	for legs := int64(1); legs <= 4; legs++ {
		for span := int64(0); span <= 400 && (legs > 1 || span == 0); span++ {
			for rise := int64(1); rise <= 400; rise++ {
				if !yield(slingOf(legs, span, rise, 0)) {
					return
				}
			}
		}
	}
}

// slingSquare is the number of which D is the root.
func slingSquare(s impl.Sling) int64 { return s.Span*s.Span + 4*s.Rise*s.Rise }

// twiceLeg is D. A root of floats is a guess here, and put right by whole numbers.
func twiceLeg(s impl.Sling) int64 {
	n := slingSquare(s)
	d := int64(math.Sqrt(float64(n)))
	for d*d >= n {
		d--
	}
	for d*d < n {
		d++
	}
	return d
}

// bearing has the bearing legs of slings with 1 to 4 legs.
var bearing = [5]int64{0, 1, 2, 3, 3}

// strain is the force in a leg.
func strain(s impl.Sling, weight int64) *big.Rat {
	return product(share(weight*twiceLeg(s), bearing[s.Legs]), share(1, 2*s.Rise))
}

// strainUp counts up to the whole number that the quotient leaves below the force.
func strainUp(s impl.Sling, weight int64) int64 {
	f := strain(s, weight)
	n := new(big.Int).Quo(f.Num(), f.Denom()).Int64()
	for share(n, 1).Cmp(f) < 0 {
		n++
	}
	return n
}

// spreadClass compares the slope of the legs with the document's: twice the span for each rise, and the root of 12.
func spreadClass(s impl.Sling) int64 {
	slope := share(s.Span, s.Rise)
	switch {
	case s.Legs == 1:
		return 0
	case slope.Cmp(share(2, 1)) <= 0:
		return 1
	case product(slope, slope).Cmp(share(12, 1)) <= 0:
		return 2
	}
	return 3
}

// carries reports whether a sling holds a weight.
func carries(s impl.Sling, weight, most int64) bool {
	return spreadClass(s) < 3 && strain(s, weight).Cmp(share(most, 1)) <= 0
}

// leastRise returns 0 if no rise is enough.
func leastRise(s impl.Sling, weight, most int64) int64 {
	least := int64(0)
	for rise := int64(400); rise >= 1; rise-- {
		if carries(slingOf(s.Legs, s.Span, rise, s.Mass), weight, most) {
			least = rise
		}
	}
	return least
}

// plainSling is a text of any numbers.
func plainSling(s impl.Sling) string {
	n := func(n int64) string { return strconv.FormatInt(n, 10) }
	return n(s.Legs) + "x" + n(s.Span) + "/" + n(s.Rise) + " " + n(s.Mass)
}

// loadsAround has the limits of weights and forces, and the numbers beside others that are within them.
func loadsAround(numbers ...int64) []int64 {
	list := []int64{0, 1, 2, 49999, 50000}
	for _, n := range numbers {
		list = append(list, n-1, n, n+1)
	}
	slices.Sort(list)
	return slices.DeleteFunc(slices.Compact(list), func(n int64) bool { return !within(n, 0, 50000) })
}

func TestSlingConstants(t *testing.T) {
	same(t, "MaxLegs", impl.MaxLegs, 4)
	same(t, "MaxSpan", impl.MaxSpan, 400)
}

func TestValidSling(t *testing.T) {
	for _, s := range someSlings(100) {
		same(t, plainSling(s), impl.ValidSling(s), true)
	}
	for _, s := range badSlings() {
		same(t, plainSling(s), impl.ValidSling(s), false)
	}
	numbers := append([]int64{2, 3, 4, 399, 400, 401}, edges...)
	for _, a := range numbers {
		for _, b := range numbers {
			same(t, "legs and span", impl.ValidSling(slingOf(a, b, 4, 12)), within(a, 1, 4) && within(b, 0, 400) && (a != 1 || b == 0))
			same(t, "rise and mass", impl.ValidSling(slingOf(2, 6, a, b)), within(a, 1, 400) && within(b, 0, 1000))
			same(t, "rise and mass of one leg", impl.ValidSling(slingOf(1, 0, a, b)), within(a, 1, 400) && within(b, 0, 1000))
		}
	}
}

func TestLegsAsTold(t *testing.T) {
	cases := []struct {
		s                     impl.Sling
		length, class, weight int64
		force                 impl.Fraction
		up                    int64
	}{
		// One leg bears the whole weight, however long it is.
		{slingOf(1, 0, 4, 0), 4, 0, 1600, impl.Fraction{Num: 1600, Den: 1}, 1600},
		{slingOf(1, 0, 1, 0), 1, 0, 50000, impl.Fraction{Num: 50000, Den: 1}, 50000},
		{slingOf(1, 0, 400, 0), 400, 0, 7, impl.Fraction{Num: 7, Den: 1}, 7},
		{slingOf(2, 6, 4, 12), 5, 1, 1600, impl.Fraction{Num: 1000, Den: 1}, 1000},
		{slingOf(2, 6, 4, 12), 5, 1, 1601, impl.Fraction{Num: 8005, Den: 8}, 1001},
		{slingOf(2, 6, 4, 12), 5, 1, 1599, impl.Fraction{Num: 7995, Den: 8}, 1000},
		{slingOf(2, 6, 4, 12), 5, 1, 0, impl.Fraction{Num: 0, Den: 1}, 0},
		{slingOf(2, 6, 4, 12), 5, 1, 1, impl.Fraction{Num: 5, Den: 8}, 1},
		// The root of 72 is rounded up to 9, and half of it to 5.
		{slingOf(2, 6, 3, 0), 5, 1, 1600, impl.Fraction{Num: 1200, Den: 1}, 1200},
		{slingOf(2, 7, 12, 0), 13, 1, 96, impl.Fraction{Num: 50, Den: 1}, 50},
		{slingOf(2, 8, 12, 0), 13, 1, 96, impl.Fraction{Num: 52, Den: 1}, 52},
		{slingOf(2, 0, 5, 0), 5, 1, 11, impl.Fraction{Num: 11, Den: 2}, 6},
		{slingOf(3, 0, 5, 0), 5, 1, 11, impl.Fraction{Num: 11, Den: 3}, 4},
		{slingOf(3, 6, 4, 0), 5, 1, 2400, impl.Fraction{Num: 1000, Den: 1}, 1000},
		{slingOf(3, 6, 4, 0), 5, 1, 2401, impl.Fraction{Num: 12005, Den: 12}, 1001},
		// The fourth leg bears nothing.
		{slingOf(4, 0, 5, 0), 5, 1, 11, impl.Fraction{Num: 11, Den: 3}, 4},
		{slingOf(4, 6, 4, 20), 5, 1, 2400, impl.Fraction{Num: 1000, Den: 1}, 1000},
		{slingOf(4, 6, 4, 20), 5, 1, 2401, impl.Fraction{Num: 12005, Den: 12}, 1001},
		{slingOf(4, 6, 4, 20), 5, 1, 1, impl.Fraction{Num: 5, Den: 12}, 1},
		{slingOf(4, 8, 4, 20), 6, 1, 48, impl.Fraction{Num: 24, Den: 1}, 24},
		{slingOf(2, 8, 4, 0), 6, 1, 50000, impl.Fraction{Num: 37500, Den: 1}, 37500},
		{slingOf(2, 9, 4, 0), 7, 2, 50000, impl.Fraction{Num: 40625, Den: 1}, 40625},
		{slingOf(2, 13, 4, 0), 8, 2, 50000, impl.Fraction{Num: 50000, Den: 1}, 50000},
		// A sling that is not allowed has a force all the same, even one above all limits.
		{slingOf(2, 14, 4, 0), 9, 3, 50000, impl.Fraction{Num: 53125, Den: 1}, 53125},
		{slingOf(2, 400, 1, 0), 201, 3, 50000, impl.Fraction{Num: 5012500, Den: 1}, 5012500},
		{slingOf(4, 400, 1, 0), 201, 3, 50000, impl.Fraction{Num: 10025000, Den: 3}, 3341667},
		{slingOf(4, 400, 400, 0), 448, 1, 50000, impl.Fraction{Num: 111875, Den: 6}, 18646},
	}
	for _, x := range cases {
		what := plainSling(x.s) + " with " + impl.Decimal(x.weight)
		length, one := impl.LegLength(x.s)
		class, two := impl.AngleClass(x.s)
		force, three := impl.LegForce(x.s, x.weight)
		up, four := impl.ForceUp(x.s, x.weight)
		same(t, "length: "+what, length, x.length)
		same(t, "class: "+what, class, x.class)
		same(t, "force: "+what, force, x.force)
		same(t, "force up: "+what, up, x.up)
		same(t, "codes: "+what, [4]int64{one, two, three, four}, [4]int64{})
	}
}

// checkShape compares the length, the class and one force of a sling with the document's formulas.
func checkShape(t *testing.T, s impl.Sling) {
	t.Helper()
	d := twiceLeg(s)
	// With this weight the force is D itself.
	weight := 2 * bearing[s.Legs] * s.Rise
	length, one := impl.LegLength(s)
	class, two := impl.AngleClass(s)
	up, three := impl.ForceUp(s, weight)
	force, four := impl.LegForce(s, weight)
	if length != (d+1)/2 || class != spreadClass(s) || up != d || force != (impl.Fraction{Num: d, Den: 1}) || one+two+three+four != impl.OK {
		t.Errorf("%s: length %d, class %d, force %d, %v, want D %d and the class %d", plainSling(s), length, class, up, force, d, spreadClass(s))
	}
}

// The squares, the numbers beside them, and the classes are counted, so that none of them is left out.
func TestAllShapes(t *testing.T) {
	seen := map[string]int{}
	for s := range allShapes {
		checkShape(t, s)
		if s.Legs == 1 {
			seen["one leg"]++
			continue
		}
		d, parity := twiceLeg(s), impl.Decimal(twiceLeg(s)%2)
		switch slingSquare(s) {
		case d * d:
			seen["square "+parity]++
		case d*d - 1:
			seen["below a square "+parity]++
		case (d-1)*(d-1) + 1:
			seen["above a square "+parity]++
		}
		seen["class "+impl.Decimal(spreadClass(s))+" of "+impl.Decimal(s.Legs)]++
	}
	// The number of which D is the root is 0 or 1 beside a multiple of 4, so that no even D has one just beside a square.
	kinds := []string{"one leg", "square 0", "square 1", "below a square 1", "above a square 1"}
	for legs := int64(2); legs <= 4; legs++ {
		for class := int64(1); class <= 3; class++ {
			kinds = append(kinds, "class "+impl.Decimal(class)+" of "+impl.Decimal(legs))
		}
	}
	for _, kind := range kinds {
		same(t, kind+": "+strconv.Itoa(seen[kind]), seen[kind] >= 50, true)
	}
}

// The limits of the classes are found by multiplying alone: 2 * Rise, and the greatest whole number whose square is at most 12 * Rise * Rise.
func TestAngleClassAtItsLimits(t *testing.T) {
	for legs := int64(2); legs <= 4; legs++ {
		widest := int64(0)
		for rise := int64(1); rise <= 400; rise++ {
			for (widest+1)*(widest+1) <= 12*rise*rise {
				widest++
			}
			for _, x := range [][2]int64{{2*rise - 1, 1}, {2 * rise, 1}, {2*rise + 1, 2}, {widest, 2}, {widest + 1, 3}} {
				if x[0] > 400 {
					continue
				}
				got, c := impl.AngleClass(slingOf(legs, x[0], rise, 7))
				same(t, "class of "+plainSling(slingOf(legs, x[0], rise, 7)), got, x[1])
				same(t, "code of a class", c, impl.OK)
			}
		}
	}
}

func TestForcesOfManySlings(t *testing.T) {
	seen := map[string]int{}
	for _, s := range someSlings(300) {
		whole := 2 * bearing[s.Legs] * s.Rise
		for _, weight := range loadsAround(whole, 7*whole, 1000, 1600, 2400, 12345) {
			what := plainSling(s) + " with " + impl.Decimal(weight)
			force, one := impl.LegForce(s, weight)
			up, two := impl.ForceUp(s, weight)
			mass, three := impl.HookMass(s, weight)
			want := strain(s, weight)
			sameFraction(t, "force: "+what, force, want)
			same(t, "force up: "+what, up, strainUp(s, weight))
			same(t, "mass: "+what, mass, weight+s.Mass)
			same(t, "codes: "+what, [3]int64{one, two, three}, [3]int64{})
			kind := "fraction"
			switch {
			case weight == 0:
				kind = "nothing"
				same(t, "force: "+what, force, impl.Fraction{Num: 0, Den: 1})
			case want.IsInt():
				kind = "whole"
			case want.Denom().Int64() < whole:
				kind = "reduced"
			}
			seen[kind+" of "+impl.Decimal(s.Legs)]++
		}
	}
	for _, kind := range []string{"nothing", "whole", "fraction", "reduced"} {
		for legs := int64(1); legs <= 4; legs++ {
			// The force in a single leg always is whole.
			wanted := legs > 1 || kind == "nothing" || kind == "whole"
			same(t, kind+" of "+impl.Decimal(legs), seen[kind+" of "+impl.Decimal(legs)] >= 50, wanted)
		}
	}
}

func TestHookMass(t *testing.T) {
	cases := []struct{ legs, mass, weight, want int64 }{
		{2, 12, 1600, 1612}, {1, 0, 0, 0}, {1, 1000, 0, 1000}, {3, 0, 50000, 50000}, {4, 1000, 50000, 51000}, {4, 999, 49999, 50998},
	}
	for _, x := range cases {
		got, c := impl.HookMass(slingOf(x.legs, 0, 4, x.mass), x.weight)
		same(t, "mass with "+impl.Decimal(x.weight), got, x.want)
		same(t, "code", c, impl.OK)
	}
}

func TestLeastRiseAsTold(t *testing.T) {
	cases := []struct {
		s                  impl.Sling
		weight, most, want int64
		code               int64
	}{
		{slingOf(2, 6, 4, 12), 1600, 1000, 4, impl.OK},
		{slingOf(2, 6, 4, 12), 1600, 999, 5, impl.OK},
		{slingOf(2, 6, 4, 12), 1600, 1199, 4, impl.OK},
		{slingOf(2, 6, 4, 12), 1600, 1200, 3, impl.OK},
		{slingOf(2, 6, 4, 12), 1600, 799, 0, impl.ErrNotFound},
		// Its own rise does not matter, even if it is too low for an allowed sling.
		{slingOf(2, 6, 400, 12), 1600, 1000, 4, impl.OK},
		{slingOf(2, 6, 1, 12), 1600, 1000, 4, impl.OK},
		{slingOf(2, 400, 1, 12), 0, 0, 116, impl.OK},
		{slingOf(3, 399, 1, 12), 0, 0, 116, impl.OK},
		{slingOf(4, 398, 1, 12), 0, 0, 115, impl.OK},
		// A single leg holds with every rise or with none.
		{slingOf(1, 0, 400, 0), 1600, 1600, 1, impl.OK},
		{slingOf(1, 0, 400, 0), 1600, 1599, 0, impl.ErrNotFound},
		{slingOf(1, 0, 1, 0), 50000, 50000, 1, impl.OK},
		{slingOf(1, 0, 1, 0), 0, 0, 1, impl.OK},
		{slingOf(2, 0, 7, 0), 1600, 800, 1, impl.OK},
		{slingOf(2, 0, 7, 0), 1601, 800, 0, impl.ErrNotFound},
		{slingOf(2, 1, 7, 0), 4, 3, 1, impl.OK},
		{slingOf(2, 3, 7, 0), 4, 50000, 1, impl.OK},
		{slingOf(2, 4, 7, 0), 4, 50000, 2, impl.OK},
		// Four legs are as strong as three.
		{slingOf(3, 6, 4, 0), 2400, 1000, 4, impl.OK},
		{slingOf(4, 6, 4, 0), 2400, 1000, 4, impl.OK},
		{slingOf(4, 6, 4, 0), 2400, 999, 5, impl.OK},
		{slingOf(4, 0, 4, 0), 2400, 800, 1, impl.OK},
		{slingOf(4, 0, 4, 0), 2400, 799, 0, impl.ErrNotFound},
		// The greatest rise is just enough: D is 895 with it, and 893 with the one before.
		{slingOf(2, 400, 1, 0), 16000, 8950, 400, impl.OK},
		{slingOf(2, 400, 1, 0), 16000, 8949, 0, impl.ErrNotFound},
		{slingOf(2, 400, 1, 0), 16000, 8953, 399, impl.OK},
		{slingOf(4, 400, 1, 0), 24000, 8950, 400, impl.OK},
		{slingOf(4, 400, 1, 0), 24000, 8949, 0, impl.ErrNotFound},
		{slingOf(2, 400, 1, 0), 50000, 0, 0, impl.ErrNotFound},
		{slingOf(2, 6, 4, 0), 1, 0, 0, impl.ErrNotFound},
	}
	for _, x := range cases {
		what := plainSling(x.s) + " with " + impl.Decimal(x.weight) + " and " + impl.Decimal(x.most)
		got, c := impl.LeastRise(x.s, x.weight, x.most)
		same(t, "least rise: "+what, got, x.want)
		same(t, "code: "+what, c, x.code)
	}
}

// mostBeside has the forces of a weight with some rises, and the numbers beside them.
func mostBeside(s impl.Sling, weight int64) []int64 {
	forces := []int64{weight}
	for _, rise := range []int64{1, 2, 3, 57, 115, 116, 200, 398, 399, 400} {
		s.Rise = rise
		forces = append(forces, strainUp(s, weight))
	}
	return loadsAround(forces...)
}

func TestLeastRiseOfManySlings(t *testing.T) {
	r := rand.New(rand.NewSource(71))
	seen := map[string]int{}
	for _, s := range someSlings(10) {
		for _, weight := range []int64{0, 16000, 50000, r.Int63n(50001)} {
			for _, most := range mostBeside(s, weight) {
				what := plainSling(s) + " with " + impl.Decimal(weight) + " and " + impl.Decimal(most)
				want := leastRise(s, weight, most)
				got, c := impl.LeastRise(s, weight, most)
				same(t, "least rise: "+what, got, want)
				kind := "between"
				switch want {
				case 0:
					kind = "none"
					same(t, "code: "+what, c, impl.ErrNotFound)
				case 1, 400:
					kind = impl.Decimal(want)
					fallthrough
				default:
					same(t, "code: "+what, c, impl.OK)
				}
				seen[kind]++
			}
		}
	}
	for _, kind := range []string{"none", "1", "between", "400"} {
		same(t, "least rises: "+kind, seen[kind] >= 10, true)
	}
}

func TestGreatestWeightAsTold(t *testing.T) {
	cases := []struct {
		s          impl.Sling
		most, want int64
		code       int64
	}{
		{slingOf(2, 6, 4, 12), 1000, 1600, impl.OK},
		{slingOf(2, 6, 4, 12), 1001, 1601, impl.OK},
		{slingOf(2, 6, 4, 12), 999, 1598, impl.OK},
		{slingOf(2, 6, 4, 12), 0, 0, impl.OK},
		{slingOf(2, 6, 4, 12), 1, 1, impl.OK},
		{slingOf(2, 6, 4, 12), 31249, 49998, impl.OK},
		{slingOf(2, 6, 4, 12), 31250, 50000, impl.OK},
		{slingOf(2, 6, 4, 12), 31251, 50000, impl.OK},
		{slingOf(2, 6, 4, 12), 50000, 50000, impl.OK},
		{slingOf(1, 0, 4, 0), 0, 0, impl.OK},
		{slingOf(1, 0, 4, 0), 1, 1, impl.OK},
		{slingOf(1, 0, 4, 0), 49999, 49999, impl.OK},
		{slingOf(1, 0, 4, 0), 50000, 50000, impl.OK},
		{slingOf(3, 6, 4, 0), 1000, 2400, impl.OK},
		{slingOf(4, 6, 4, 0), 1000, 2400, impl.OK},
		{slingOf(4, 6, 4, 0), 1, 2, impl.OK},
		{slingOf(4, 0, 4, 0), 1, 3, impl.OK},
		{slingOf(4, 0, 4, 0), 16666, 49998, impl.OK},
		{slingOf(4, 0, 4, 0), 16667, 50000, impl.OK},
		{slingOf(2, 13, 4, 0), 1000, 1000, impl.OK},
		{slingOf(2, 14, 4, 0), 1000, 0, impl.ErrUnsafe},
		{slingOf(3, 14, 4, 0), 0, 0, impl.ErrUnsafe},
		{slingOf(4, 14, 4, 0), 50000, 0, impl.ErrUnsafe},
		{slingOf(2, 400, 116, 0), 0, 0, impl.OK},
		{slingOf(2, 400, 115, 0), 0, 0, impl.ErrUnsafe},
	}
	for _, x := range cases {
		what := plainSling(x.s) + " with " + impl.Decimal(x.most)
		got, c := impl.GreatestWeight(x.s, x.most)
		same(t, "greatest weight: "+what, got, x.want)
		same(t, "code: "+what, c, x.code)
	}
}

func TestGreatestWeightOfManySlings(t *testing.T) {
	for _, s := range someSlings(300) {
		for _, most := range loadsAround(799, 1000, strainUp(s, 50000), strainUp(s, 49999), strainUp(s, 7)) {
			what := plainSling(s) + " with " + impl.Decimal(most)
			got, c := impl.GreatestWeight(s, most)
			if spreadClass(s) == 3 {
				same(t, "weight that is unsafe: "+what, got, int64(0))
				same(t, "code: "+what, c, impl.ErrUnsafe)
				continue
			}
			same(t, "code: "+what, c, impl.OK)
			same(t, "it is held: "+what, within(got, 0, 50000) && carries(s, got, most), true)
			same(t, "no greater one is held: "+what, got == 50000 || !carries(s, got+1, most), true)
		}
	}
}

func TestChooseSlingAsTold(t *testing.T) {
	two, four, one, wide := slingOf(2, 6, 4, 12), slingOf(4, 6, 4, 20), slingOf(1, 0, 4, 5), slingOf(2, 14, 4, 0)
	cases := []struct {
		list         []impl.Sling
		most         []int64
		weight, want int64
		code         int64
	}{
		{[]impl.Sling{four, two}, []int64{1000, 1000}, 1600, 1, impl.OK},
		{[]impl.Sling{four, two}, []int64{1000, 1000}, 1601, 0, impl.OK},
		{[]impl.Sling{four, two}, []int64{1000, 1000}, 2400, 0, impl.OK},
		{[]impl.Sling{four, two}, []int64{1000, 1000}, 2401, 0, impl.ErrNotFound},
		{[]impl.Sling{two, four}, []int64{1000, 1000}, 2401, 0, impl.ErrNotFound},
		// Each sling has its own force.
		{[]impl.Sling{four, two}, []int64{1000, 999}, 1600, 0, impl.OK},
		{[]impl.Sling{four, two}, []int64{0, 1001}, 1601, 1, impl.OK},
		{[]impl.Sling{four, two, one}, []int64{1000, 1000, 1599}, 1600, 1, impl.OK},
		{[]impl.Sling{four, two, one}, []int64{1000, 1000, 1600}, 1600, 2, impl.OK},
		{[]impl.Sling{four, two, one}, []int64{0, 0, 0}, 0, 2, impl.OK},
		{[]impl.Sling{four, two, one}, []int64{0, 0, 0}, 1, 0, impl.ErrNotFound},
		{[]impl.Sling{four, two, one}, []int64{50000, 50000, 50000}, 50000, 2, impl.OK},
		// The first one of several with the same mass.
		{[]impl.Sling{two, two, two}, []int64{1000, 1000, 1000}, 1600, 0, impl.OK},
		{[]impl.Sling{two, two, two}, []int64{999, 1000, 1000}, 1600, 1, impl.OK},
		{[]impl.Sling{two, two, two}, []int64{999, 999, 1000}, 1600, 2, impl.OK},
		{[]impl.Sling{four, slingOf(3, 0, 9, 12), two, four, slingOf(1, 0, 9, 12)}, []int64{1000, 1000, 1000, 1000, 1600}, 1600, 1, impl.OK},
		{[]impl.Sling{slingOf(1, 0, 1, 1000), slingOf(1, 0, 1, 0), slingOf(1, 0, 1, 0)}, []int64{5, 5, 5}, 5, 1, impl.OK},
		// A sling of class 3 holds nothing, however light it is.
		{[]impl.Sling{wide, two}, []int64{50000, 1000}, 1600, 1, impl.OK},
		{[]impl.Sling{two, wide, wide}, []int64{1000, 50000, 50000}, 0, 0, impl.OK},
		{[]impl.Sling{wide}, []int64{50000}, 0, 0, impl.ErrNotFound},
		{[]impl.Sling{wide, wide}, []int64{50000, 0}, 1, 0, impl.ErrNotFound},
		{nil, nil, 0, 0, impl.ErrNotFound},
		{[]impl.Sling{}, []int64{}, 50000, 0, impl.ErrNotFound},
	}
	for i, x := range cases {
		got, c := impl.ChooseSling(x.list, x.most, x.weight)
		same(t, "choice "+strconv.Itoa(i), got, x.want)
		same(t, "code of choice "+strconv.Itoa(i), c, x.code)
	}
}

// A long list is no error: the document has no limit for it.
func TestChooseSlingOfALongList(t *testing.T) {
	list, most := slices.Repeat([]impl.Sling{slingOf(2, 6, 4, 12)}, 5000), slices.Repeat([]int64{999}, 5000)
	_, c := impl.ChooseSling(list, most, 1600)
	same(t, "code without a choice", c, impl.ErrNotFound)
	most[4321], most[4999] = 1000, 1000
	got, c := impl.ChooseSling(list, most, 1600)
	same(t, "choice", got, int64(4321))
	same(t, "code of a choice", c, impl.OK)
}

// randomChoice has slings with few masses, and forces near those of a weight, so that several hold it and several do not.
func randomChoice(r *rand.Rand) (list []impl.Sling, most []int64, weight int64) {
	weight = r.Int63n([]int64{3, 3000, 30000, 50001}[r.Intn(4)])
	for range r.Intn(9) {
		s := randomSling(r)
		s.Mass = r.Int63n(4)
		list = append(list, s)
		most = append(most, min(50000, max(0, strainUp(s, weight)+r.Int63n(3)-1)))
	}
	return list, most, weight
}

// Promise 7: the sling that is chosen holds the weight, and no lighter one does; nor does one before it that is as light.
func TestPromise7ChosenSlings(t *testing.T) {
	r := rand.New(rand.NewSource(72))
	seen := map[string]int{}
	for range 5000 {
		list, most, weight := randomChoice(r)
		k, c := impl.ChooseSling(list, most, weight)
		if c != impl.OK {
			seen["none"]++
			same(t, "code without a choice", c, impl.ErrNotFound)
			same(t, "index without a choice", k, int64(0))
			for i, s := range list {
				same(t, "no sling is held with: "+plainSling(s), carries(s, weight, most[i]), false)
			}
			continue
		}
		if !within(k, 0, int64(len(list))-1) || !carries(list[k], weight, most[k]) {
			t.Errorf("the sling %d of %v does not hold %d with %v", k, list, weight, most)
			continue
		}
		for i, s := range list {
			holds := carries(s, weight, most[i])
			if holds && (s.Mass < list[k].Mass || s.Mass == list[k].Mass && int64(i) < k) {
				t.Errorf("the sling %d is better than %d of %v for %d with %v", i, k, list, weight, most)
			}
			switch {
			case holds && s.Mass == list[k].Mass && int64(i) > k:
				seen["as light"]++
			case !holds && s.Mass < list[k].Mass && spreadClass(s) == 3:
				seen["lighter, not allowed"]++
			case !holds && s.Mass < list[k].Mass:
				seen["lighter, too weak"]++
			}
		}
		seen["legs "+impl.Decimal(list[k].Legs)]++
	}
	for _, kind := range []string{"none", "as light", "lighter, not allowed", "lighter, too weak", "legs 1", "legs 2", "legs 3", "legs 4"} {
		same(t, "choices: "+kind, seen[kind] >= 100, true)
	}
}

// Promise 7, by the program's own functions: what is held is told alike by all of them.
func TestPromise7ChoicesAgreeWithForces(t *testing.T) {
	for _, s := range someSlings(200) {
		class, _ := impl.AngleClass(s)
		for _, weight := range []int64{0, 1, 1600, 2400, 12345, 50000} {
			up, _ := impl.ForceUp(s, weight)
			for _, most := range loadsAround(up) {
				what := plainSling(s) + " with " + impl.Decimal(weight) + " and " + impl.Decimal(most)
				_, c := impl.ChooseSling([]impl.Sling{s}, []int64{most}, weight)
				holds := class < 3 && up <= most
				same(t, "choice: "+what, c == impl.OK, holds)
				heaviest, c := impl.GreatestWeight(s, most)
				same(t, "greatest weight: "+what, c == impl.OK && weight <= heaviest, holds)
				least, c := impl.LeastRise(s, weight, most)
				if holds {
					same(t, "least rise: "+what, c == impl.OK && least <= s.Rise, true)
				}
			}
		}
	}
}

func TestSlingText(t *testing.T) {
	same(t, "text", impl.SlingText(slingOf(2, 6, 4, 12)), "2x6/4 12")
	same(t, "least", impl.SlingText(slingOf(1, 0, 1, 0)), "1x0/1 0")
	same(t, "greatest", impl.SlingText(slingOf(4, 400, 400, 1000)), "4x400/400 1000")
	same(t, "not allowed", impl.SlingText(slingOf(3, 400, 1, 7)), "3x400/1 7")
	for _, s := range badSlings() {
		same(t, plainSling(s), impl.SlingText(s), "")
		got, ok := impl.ReadSling(plainSling(s))
		same(t, "read "+plainSling(s), ok, false)
		same(t, "sling of "+plainSling(s), got, impl.Sling{})
	}
	for _, s := range someSlings(300) {
		text := impl.SlingText(s)
		same(t, "text", text, plainSling(s))
		got, ok := impl.ReadSling(text)
		same(t, "read "+text, ok, true)
		same(t, "sling of "+text, got, s)
	}
}

func TestReadSlingOfOtherTexts(t *testing.T) {
	texts := []string{
		"", " ", "x", "/", "x/ ", "2", "2x", "2x6", "2x6/", "2x6/4", "2x6/4 ", "2x6 12", "2x6/ 12", "2x/4 12", "x6/4 12", "6/4 12", "2 6/4 12", "2x6 4 12", "2/6/4 12", "2x6x4 12", "2x6/4/12", "2x6/4x12", "2/6x4 12",
		" 2x6/4 12", "2x6/4 12 ", "2x6/4  12", "2 x6/4 12", "2x 6/4 12", "2x6 /4 12", "2x6/ 4 12", "2x6/4\t12", "2x6/4\n12", "2x6/4 12\n", "2x6/4\u00a012", "2x6/4 12\x00", "2x6/4 12,", "2x6/412", "2x6/4 12 1", "2x6/4 12 x", "2x6/4 12/", "x2x6/4 12",
		"2xx6/4 12", "2x6//4 12", "2X6/4 12", "2*6/4 12", "2x6\\4 12", "+2x6/4 12", "2x+6/4 12", "2x6/+4 12", "2x6/4 +12", "-2x6/4 12", "2x-6/4 12", "2x6/-4 12", "2x6/4 -12", "2x-0/4 12", "2x6/4 -0",
		"02x6/4 12", "2x06/4 12", "2x6/04 12", "2x6/4 012", "2x00/4 12", "2x6/4 00", "2x6/4 1e1", "2x6/4 0x1", "2x6.0/4 12", "2x6/4 1_0", "a", "ax6/4 12", "2xa/4 12", "2x6/a 12", "2x6/4 a", "2x/4 0", "1xa/4 0", "1x/4 0", "2x6/4 \u0661", "\xff", "2x6/4 \xff", "2\xffx6/4 12",
		// The sling is not valid.
		"0x6/4 12", "5x6/4 12", "0x0/4 12", "1x6/4 12", "1x1/4 12", "2x401/4 12", "2x6/0 12", "2x6/401 12", "2x6/4 1001", "1x0/0 0", "0x0/0 0", "2x6/4 999999999999999999", "2x6/4 9999999999999999999", "99999999999999999999x6/4 12", "18446744073709551618x6/4 12",
		strings.Repeat("2x6/4 12", 2), strings.Repeat("2x6/4 12 ", 5000), strings.Repeat("x", 100000), "2x6/4 " + strings.Repeat("1", 1000), strings.Repeat("0", 1000) + "2x6/4 12",
	}
	for _, s := range texts {
		got, ok := impl.ReadSling(s)
		same(t, "read "+strconv.Quote(s), ok, false)
		same(t, "sling of "+strconv.Quote(s), got, impl.Sling{})
	}
}

// Each byte of a text is left out, doubled, or replaced by others: what is still read must be the text of the sling.
func TestReadSlingByteByByte(t *testing.T) {
	for _, text := range []string{"2x6/4 12", "1x0/400 0", "4x400/116 1000", "3x10/10 10"} {
		changed := []string{}
		for i := range text {
			changed = append(changed, text[:i]+text[i+1:], text[:i+1]+text[i:], text[:i]+text[i+1:]+text[i:i+1])
			for b := range 256 {
				changed = append(changed, text[:i]+string([]byte{byte(b)})+text[i+1:], text[:i]+string([]byte{byte(b)})+text[i:])
			}
		}
		read := 0
		for _, s := range changed {
			got, ok := impl.ReadSling(s)
			if ok {
				read++
				same(t, "read "+strconv.Quote(s), plainSling(got), s)
				same(t, "valid "+strconv.Quote(s), impl.ValidSling(got), true)
			} else {
				same(t, "sling of "+strconv.Quote(s), got, impl.Sling{})
			}
		}
		same(t, "changed texts of "+text, read >= 10, true)
	}
}

// slingCall is one call with all that it takes, and tells which of the numbers it looks at.
type slingCall struct {
	name         string
	weight, most bool
	call         func(s impl.Sling, weight, most int64) (result string, code int64)
}

func slingCalls() []slingCall {
	return []slingCall{
		{"LegLength", false, false, func(s impl.Sling, _, _ int64) (string, int64) { return numberText(impl.LegLength(s)) }},
		{"LegForce", true, false, func(s impl.Sling, weight, _ int64) (string, int64) { return fractionText(impl.LegForce(s, weight)) }},
		{"ForceUp", true, false, func(s impl.Sling, weight, _ int64) (string, int64) { return numberText(impl.ForceUp(s, weight)) }},
		{"AngleClass", false, false, func(s impl.Sling, _, _ int64) (string, int64) { return numberText(impl.AngleClass(s)) }},
		{"LeastRise", true, true, func(s impl.Sling, weight, most int64) (string, int64) {
			return numberText(impl.LeastRise(s, weight, most))
		}},
		{"GreatestWeight", false, true, func(s impl.Sling, _, most int64) (string, int64) { return numberText(impl.GreatestWeight(s, most)) }},
		{"HookMass", true, false, func(s impl.Sling, weight, _ int64) (string, int64) { return numberText(impl.HookMass(s, weight)) }},
		{"ChooseSling", true, true, func(s impl.Sling, weight, most int64) (string, int64) {
			return numberText(impl.ChooseSling([]impl.Sling{s}, []int64{most}, weight))
		}},
	}
}

func TestSlingErrorOrder(t *testing.T) {
	// Some slings hold nothing or are not allowed, so that ErrRange is seen to be before ErrNotFound and ErrUnsafe.
	good := []impl.Sling{slingOf(1, 0, 4, 5), slingOf(2, 6, 4, 12), slingOf(3, 400, 1, 0), slingOf(4, 14, 4, 1000), slingOf(4, 6, 4, 20)}
	numbers := append([]int64{49999, 50000, 50001}, edges...)
	for _, x := range slingCalls() {
		for _, weight := range numbers {
			for _, most := range numbers {
				what := x.name + " of " + impl.Decimal(weight) + " and " + impl.Decimal(most)
				for _, s := range badSlings() {
					got, c := x.call(s, weight, most)
					if c != impl.ErrInvalid || !slices.Contains(zeroText, got) {
						t.Errorf("%s with no sling %s: got %s and the code %d", what, plainSling(s), got, c)
					}
				}
				for _, s := range good {
					got, c := x.call(s, weight, most)
					wrong := x.weight && !within(weight, 0, 50000) || x.most && !within(most, 0, 50000)
					same(t, what+" with "+plainSling(s), c == impl.ErrRange, wrong)
					same(t, what+" with a good "+plainSling(s), c == impl.ErrInvalid, false)
					if c != impl.OK {
						same(t, what+" beside an error", slices.Contains(zeroText, got), true)
					}
				}
			}
		}
	}
}

func TestChooseSlingErrorOrder(t *testing.T) {
	two, four, bad := slingOf(2, 6, 4, 12), slingOf(4, 6, 4, 20), slingOf(1, 1, 4, 0)
	cases := []struct {
		list   []impl.Sling
		most   []int64
		weight int64
		code   int64
	}{
		// A sling that is not valid is found behind one that holds the weight, and before all that is out of range.
		{[]impl.Sling{two, bad}, []int64{1000, 1000}, 1600, impl.ErrInvalid},
		{[]impl.Sling{bad, two}, []int64{1000, 1000}, 1600, impl.ErrInvalid},
		{[]impl.Sling{two, four, {}}, []int64{0, 0, 0}, 50000, impl.ErrInvalid},
		{[]impl.Sling{two, bad}, []int64{1000, 1000}, -1, impl.ErrInvalid},
		{[]impl.Sling{two, bad}, []int64{-1, 50001}, 1600, impl.ErrInvalid},
		{[]impl.Sling{two, bad}, []int64{1000}, 1600, impl.ErrInvalid},
		{[]impl.Sling{two, bad}, nil, 50001, impl.ErrInvalid},
		{[]impl.Sling{bad}, []int64{1000, 1000}, 1600, impl.ErrInvalid},
		// A weight or a force that is out of range, or too few or too many of them, is found before it is told that nothing is held.
		{[]impl.Sling{two, four}, []int64{1000, 1000}, -1, impl.ErrRange},
		{[]impl.Sling{two, four}, []int64{1000, 1000}, 50001, impl.ErrRange},
		{[]impl.Sling{two, four}, []int64{50000, 50000}, 50000, impl.OK},
		{[]impl.Sling{two, four}, []int64{0, 0}, 0, impl.OK},
		{[]impl.Sling{two, four}, []int64{1000, -1}, 1600, impl.ErrRange},
		{[]impl.Sling{two, four}, []int64{-1, 1000}, 1600, impl.ErrRange},
		{[]impl.Sling{two, four}, []int64{1000, 50001}, 1600, impl.ErrRange},
		{[]impl.Sling{two, four}, []int64{50001, 1000}, 1600, impl.ErrRange},
		{[]impl.Sling{two, four}, []int64{0, 50001}, 50000, impl.ErrRange},
		{[]impl.Sling{two, four}, []int64{math.MinInt64, 1000}, 1600, impl.ErrRange},
		{[]impl.Sling{two, four}, []int64{1000, math.MaxInt64}, 1600, impl.ErrRange},
		{[]impl.Sling{two, four}, []int64{1000}, 1600, impl.ErrRange},
		{[]impl.Sling{two, four}, []int64{1000, 1000, 1000}, 1600, impl.ErrRange},
		{[]impl.Sling{two, four}, nil, 1600, impl.ErrRange},
		{[]impl.Sling{two, four}, []int64{0}, 50000, impl.ErrRange},
		{nil, []int64{1000}, 1600, impl.ErrRange},
		{nil, []int64{0}, 0, impl.ErrRange},
		{nil, nil, -1, impl.ErrRange},
		{nil, nil, 50001, impl.ErrRange},
		{nil, nil, 1600, impl.ErrNotFound},
	}
	for i, x := range cases {
		got, c := impl.ChooseSling(x.list, x.most, x.weight)
		same(t, "code of case "+strconv.Itoa(i), c, x.code)
		same(t, "index of case "+strconv.Itoa(i), got, int64(0))
	}
	for _, s := range badSlings() {
		_, c := impl.ChooseSling([]impl.Sling{two, s, four}, []int64{1000, 1000, 1000}, 1600)
		same(t, "code with no sling "+plainSling(s), c, impl.ErrInvalid)
	}
}

// Promise 1: every function returns for all slings, numbers and texts, and has equal results for equal arguments.
func TestPromise1Slings(t *testing.T) {
	for i, s := range slices.Concat(goodSlings(), badSlings()) {
		for k, weight := range edges {
			most := edges[(k*3+i)%len(edges)]
			for _, x := range slingCalls() {
				one, first := x.call(s, weight, most)
				two, second := x.call(s, weight, most)
				same(t, x.name+" twice", one, two)
				same(t, "code of "+x.name+" twice", first, second)
			}
		}
		text := plainSling(s)
		same(t, "ValidSling twice", impl.ValidSling(s), impl.ValidSling(s))
		same(t, "SlingText twice", impl.SlingText(s), impl.SlingText(s))
		one, first := impl.ReadSling(text)
		two, second := impl.ReadSling(strings.Clone(text))
		same(t, "ReadSling twice", one, two)
		same(t, "ReadSling twice", first, second)
	}
}

// Promise 1: ChooseSling changes neither the lists nor their spare memory, and has equal results for equal lists.
func TestPromise1ChoicesChangeNothing(t *testing.T) {
	r := rand.New(rand.NewSource(73))
	for i := range 500 {
		list, most, weight := randomChoice(r)
		switch i % 5 {
		case 0:
			list = append(list, badSlings()[i%len(badSlings())])
		case 1:
			most = append(most, edges[i%len(edges)])
		}
		slings := append(slices.Clone(list), slingOf(-1, -2, -3, -4), slingOf(1, 0, 1, 0), slingOf(-5, -6, -7, -8))
		forces := append(slices.Clone(most), -9, 50000, -10)
		keptSlings, keptForces := slices.Clone(slings), slices.Clone(forces)
		one, first := impl.ChooseSling(slings[:len(list)], forces[:len(most)], weight)
		two, second := impl.ChooseSling(slices.Clip(slices.Clone(list)), slices.Clip(slices.Clone(most)), weight)
		same(t, "choice twice", one, two)
		same(t, "code twice", first, second)
		same(t, "memory of the slings", slices.Equal(slings, keptSlings), true)
		same(t, "memory of the forces", slices.Equal(forces, keptForces), true)
	}
}
