package tests

import (
	"math"
	"math/rand"
	"slices"
	"strconv"
	"strings"
	"testing"

	"loop.example/g00932/impl"
)

// lift has the values of a plain lift, but for its name, its deadline and what it is after.
func lift(name string, deadline int64, after ...int64) impl.Lift {
	return impl.Lift{Name: name, Weight: 100, From: impl.Point{X: -20, Y: 30}, To: impl.Point{X: 10}, Height: 5, Deadline: deadline, After: after}
}

// liftsAfter has a lift for each list of indices, with the names a, b and so on.
func liftsAfter(after ...[]int64) []impl.Lift {
	list := []impl.Lift{}
	for k, indices := range after {
		list = append(list, lift(string(rune('a'+k)), 100, indices...))
	}
	return list
}

// free has n lifts that need no other ones.
func free(n int) []impl.Lift { return liftsAfter(make([][]int64, n)...) }

// chain has n lifts of which each one needs the one before it.
func chain(n int) []impl.Lift {
	after := [][]int64{}
	for k := range int64(n) {
		after = append(after, []int64{k - 1})
	}
	after[0] = nil
	return liftsAfter(after...)
}

// tree has n lifts of which the first one is needed by two, each of these by two more, and so on.
func tree(n int) []impl.Lift {
	after := [][]int64{nil}
	for k := int64(1); k < int64(n); k++ {
		after = append(after, []int64{(k - 1) / 2})
	}
	return liftsAfter(after...)
}

// all has n lifts of which each one needs all before it.
func all(n int) []impl.Lift {
	after := [][]int64{}
	for k := range int64(n) {
		indices := []int64{}
		for before := range k {
			indices = append(indices, before)
		}
		after = append(after, indices)
	}
	return liftsAfter(after...)
}

// diamond has lifts that need the first one in several ways, directly too.
func diamond() []impl.Lift {
	return liftsAfter(nil, []int64{0}, []int64{0}, []int64{1, 2}, []int64{0, 3}, nil)
}

// changedLift returns the lift b behind two others, after a change.
func changedLift(change func(l *impl.Lift)) []impl.Lift {
	list := []impl.Lift{lift("a", 7), lift("c", 8, 0), lift("b", 9, 0, 1)}
	change(&list[2])
	return list
}

// withAfter has four lifts, of which the last one is after others.
func withAfter(after ...int64) []impl.Lift {
	return append(free(3), lift("last", 50, after...))
}

// goodLifts has lists of 0 to 10 lifts, with all fields at their limits.
func goodLifts() [][]impl.Lift {
	lists := [][]impl.Lift{
		nil, {}, free(1), free(2), free(10), chain(2), chain(3), chain(10), tree(7), tree(10), all(2), all(10), diamond(),
		withAfter(0), withAfter(1), withAfter(2), withAfter(0, 1), withAfter(0, 2), withAfter(1, 2), withAfter(0, 1, 2), withAfter(),
		changedLift(func(l *impl.Lift) { l.Name = "a234567890-2" }), changedLift(func(l *impl.Lift) { l.Name = "z" }),
		changedLift(func(l *impl.Lift) { l.To = l.From }),
	}
	for _, x := range []int64{-10000, 10000} {
		for _, y := range []int64{-10000, 0, 10000} {
			lists = append(lists, changedLift(func(l *impl.Lift) { l.From = impl.Point{X: x, Y: y} }), changedLift(func(l *impl.Lift) { l.To = impl.Point{X: y, Y: x} }))
		}
	}
	for _, n := range []int64{1, 2, 49999, 50000} {
		lists = append(lists, changedLift(func(l *impl.Lift) { l.Weight = n }), changedLift(func(l *impl.Lift) { l.Deadline = n * 20 }))
	}
	for _, n := range []int64{0, 1, 1999, 2000} {
		lists = append(lists, changedLift(func(l *impl.Lift) { l.Height = n }), changedLift(func(l *impl.Lift) { l.Deadline = n + 1 }))
	}
	return lists
}

// badFields has changes after each of which a lift is not valid, whatever it is after.
func badFields() []func(l *impl.Lift) {
	list := []func(l *impl.Lift){func(l *impl.Lift) { l.From, l.To = impl.Point{X: 10001}, impl.Point{Y: -10001} }}
	for _, name := range []string{"", "A", "3a", "-a", "a b", "a_b", "a234567890123", "ä", "\xff", "a\x00", strings.Repeat("a", 100000)} {
		list = append(list, func(l *impl.Lift) { l.Name = name })
	}
	for _, n := range []int64{0, -1, -100, 50001, math.MinInt64, math.MaxInt64, 1<<32 + 5} {
		list = append(list, func(l *impl.Lift) { l.Weight = n })
	}
	for _, n := range []int64{-1, -5, 2001, math.MinInt64, math.MaxInt64, 1<<32 + 5} {
		list = append(list, func(l *impl.Lift) { l.Height = n })
	}
	for _, n := range []int64{0, -1, -9, 1000001, math.MinInt64, math.MaxInt64, 1<<32 + 5} {
		list = append(list, func(l *impl.Lift) { l.Deadline = n })
	}
	for _, n := range []int64{-10001, 10001, math.MinInt64, math.MaxInt64} {
		list = append(list, func(l *impl.Lift) { l.From.X = n }, func(l *impl.Lift) { l.From.Y = n }, func(l *impl.Lift) { l.To.X = n }, func(l *impl.Lift) { l.To.Y = n })
	}
	return list
}

// badAfters has lists that the lift 3 can't be after.
func badAfters() [][]int64 {
	return [][]int64{
		{3}, {4}, {-1}, {0, 0}, {1, 0}, {2, 2}, {0, 2, 1}, {0, 1, 1}, {0, 0, 2}, {-1, 0}, {0, -1}, {0, 1, 3}, {0, 1, 2, 3}, {2, 3}, {0, 4}, {0, 1, 2, 2}, {1, 2, 0},
		{math.MinInt64}, {math.MaxInt64}, {math.MinInt64, 1}, {1, math.MaxInt64}, {1, math.MinInt64}, {10}, {1 << 32}, {64}, slices.Repeat([]int64{1}, 5000),
	}
}

// badLifts has lists that are not valid, each for one reason.
func badLifts() [][]impl.Lift {
	same := slices.Repeat([]impl.Lift{lift("a", 5)}, 5000)
	lists := [][]impl.Lift{
		{{}}, {lift("a", 5), lift("a", 6)}, {lift("a", 5), lift("b", 6), lift("a", 5)}, {lift("b", 5), lift("a", 5), lift("a", 6, 0)},
		free(11), chain(11), all(11), free(12), same, make([]impl.Lift, 10), make([]impl.Lift, 11),
		{lift("a", 5, 0)}, {lift("a", 5, 1), lift("b", 5)}, {lift("a", 5, -1)}, {lift("a", 5), lift("b", 5, 1)}, {lift("a", 5), lift("b", 5, 2), lift("c", 5)},
	}
	for _, after := range badAfters() {
		lists = append(lists, withAfter(after...))
	}
	for _, change := range badFields() {
		lists = append(lists, changedLift(change))
		first := chain(3)
		change(&first[0])
		lists = append(lists, first)
	}
	return lists
}

func randomLifts(r *rand.Rand, n int) []impl.Lift {
	needs, latest := r.Intn(5), []int64{2, 5, 1000}[r.Intn(3)]
	list := []impl.Lift{}
	for k := range n {
		l := lift("l"+strconv.Itoa(k), 1+r.Int63n(latest))
		for before := range int64(k) {
			if r.Intn(5) < needs {
				l.After = append(l.After, before)
			}
		}
		list = append(list, l)
	}
	return list
}

// someLifts has good lists, and many random ones with at most n lifts.
func someLifts(n int) [][]impl.Lift {
	r := rand.New(rand.NewSource(8))
	lists := slices.DeleteFunc(goodLifts(), func(list []impl.Lift) bool { return len(list) > n })
	for range 150 {
		lists = append(lists, randomLifts(r, r.Intn(n+1)))
	}
	return lists
}

// equalLift compares without the program, so that it can test SameLifts.
func equalLift(a, b impl.Lift) bool {
	after := slices.Equal(a.After, b.After)
	a.After, b.After = nil, nil
	return after && liftWords(a) == liftWords(b)
}

func liftWords(l impl.Lift) string {
	numbers := []int64{l.Weight, l.From.X, l.From.Y, l.To.X, l.To.Y, l.Height, l.Deadline}
	return strconv.Quote(l.Name) + " " + numbersText(numbers, 0) + " after" + numbersText(l.After, 0)
}

func listWords(list []impl.Lift) string {
	words := ""
	for _, l := range list {
		words += liftWords(l) + "; "
	}
	return words
}

func sameLifts(t *testing.T, what string, got, want []impl.Lift) {
	t.Helper()
	if !slices.EqualFunc(got, want, equalLift) {
		t.Errorf("%s: got %s, want %s", what, listWords(got), listWords(want))
	}
}

// copiedList returns a list that shares no memory with the one given.
func copiedList(list []impl.Lift) []impl.Lift {
	copied := slices.Clone(list)
	for k := range copied {
		copied[k].After = slices.Clone(copied[k].After)
	}
	return copied
}

// needs tells which lifts need which other ones, by way of others too: a lift between two others is looked for until there is no more.
func needs(list []impl.Lift) [10][10]bool {
	table := [10][10]bool{}
	for k, l := range list {
		for _, before := range l.After {
			table[k][before] = true
		}
	}
	for between := range 10 {
		for k := range 10 {
			for before := range 10 {
				table[k][before] = table[k][before] || table[k][between] && table[between][before]
			}
		}
	}
	return table
}

// placesIn has for each lift its place in an order.
func placesIn(order []int64) [10]int {
	places := [10]int{}
	for place, k := range order {
		places[k] = place
	}
	return places
}

// followed reports whether an order, which has each lift once, has each lift behind those that it is after.
func followed(list []impl.Lift, order []int64) bool {
	places := placesIn(order)
	for k, l := range list {
		for _, before := range l.After {
			if places[before] > places[k] {
				return false
			}
		}
	}
	return true
}

// permutations goes through all orders of n numbers.
func permutations(n int64, yield func(order []int64)) {
	order := []int64{}
	for k := range n {
		order = append(order, k)
	}
	permute(order, 0, yield)
}

func permute(order []int64, from int, yield func(order []int64)) {
	if from == len(order) {
		yield(order)
	}
	for i := from; i < len(order); i++ {
		order[from], order[i] = order[i], order[from]
		permute(order, from+1, yield)
		order[from], order[i] = order[i], order[from]
	}
}

// bits has the numbers of the bits of a set.
func bits(set int64) []int64 {
	list := []int64{}
	for k := range int64(64) {
		if uint64(set)>>k%2 == 1 {
			list = append(list, k)
		}
	}
	return list
}

// readyAfter compares the lists themselves, not bits.
func readyAfter(list []impl.Lift, done []int64) []int64 {
	ready := []int64{}
	for k := range list {
		missing := slices.ContainsFunc(list[k].After, func(before int64) bool { return !slices.Contains(done, before) })
		if !missing && !slices.Contains(done, int64(k)) {
			ready = append(ready, int64(k))
		}
	}
	return ready
}

func TestLiftConstants(t *testing.T) {
	same(t, "MaxLifts", impl.MaxLifts, 10)
	same(t, "MaxDeadline", impl.MaxDeadline, 1000000)
}

func TestValidLifts(t *testing.T) {
	for _, list := range someLifts(10) {
		same(t, listWords(list), impl.ValidLifts(list), true)
	}
	for _, list := range badLifts() {
		same(t, listWords(list), impl.ValidLifts(list), false)
	}
}

func TestValidLiftsNumberByNumber(t *testing.T) {
	for _, n := range append([]int64{2, 1999, 2000, 2001, 49999, 50000, 50001, 999999, 1000000, 1000001}, edges...) {
		what := "lift with " + impl.Decimal(n)
		same(t, "weight: "+what, impl.ValidLifts(changedLift(func(l *impl.Lift) { l.Weight = n })), within(n, 1, 50000))
		same(t, "height: "+what, impl.ValidLifts(changedLift(func(l *impl.Lift) { l.Height = n })), within(n, 0, 2000))
		same(t, "deadline: "+what, impl.ValidLifts(changedLift(func(l *impl.Lift) { l.Deadline = n })), within(n, 1, 1000000))
		same(t, "one that it is after: "+what, impl.ValidLifts(withAfter(n)), within(n, 0, 2))
		for _, other := range edges {
			p := impl.Point{X: n, Y: other}
			same(t, "from: "+what, impl.ValidLifts(changedLift(func(l *impl.Lift) { l.From = p })), isPlace(p))
			same(t, "to: "+what, impl.ValidLifts(changedLift(func(l *impl.Lift) { l.To = p })), isPlace(p))
			increasing := within(n, 0, 2) && within(other, 0, 2) && n < other
			same(t, "two that it is after: "+what, impl.ValidLifts(withAfter(n, other)), increasing)
		}
	}
}

func TestSameLifts(t *testing.T) {
	changes := append(badFields(), func(*impl.Lift) {}, func(l *impl.Lift) { l.Name = "d" }, func(l *impl.Lift) { l.Weight = 101 },
		func(l *impl.Lift) { l.From.X = -21 }, func(l *impl.Lift) { l.From.Y = 31 }, func(l *impl.Lift) { l.To.X = 11 }, func(l *impl.Lift) { l.To.Y = 1 },
		func(l *impl.Lift) { l.Height = 6 }, func(l *impl.Lift) { l.Deadline = 10 }, func(l *impl.Lift) { l.From, l.To = l.To, l.From },
		func(l *impl.Lift) { l.After = nil }, func(l *impl.Lift) { l.After = []int64{} }, func(l *impl.Lift) { l.After = []int64{0} }, func(l *impl.Lift) { l.After = []int64{1, 0} },
		func(l *impl.Lift) { l.After = []int64{0, 1, 2} }, func(l *impl.Lift) { l.After = []int64{0, 0} }, func(l *impl.Lift) { l.After = []int64{-1} })
	lists := [][]impl.Lift{nil, {}, {{}}, make([]impl.Lift, 2), free(3), free(4), free(11), chain(3), {lift("c", 8, 0), lift("a", 7), lift("b", 9, 0, 1)}}
	for _, change := range changes {
		lists = append(lists, changedLift(change))
	}
	equal := 0
	for i, a := range lists {
		for k, b := range lists {
			want := slices.EqualFunc(a, b, equalLift)
			same(t, "same "+listWords(a)+" and "+listWords(b), impl.SameLifts(a, copiedList(b)), want)
			if i != k && want {
				equal++
			}
		}
	}
	// The nil and the empty list, and the nil and the empty After, both ways.
	same(t, "equal pairs", equal, 4)
}

func TestAddLiftAsTold(t *testing.T) {
	full := free(10)
	cases := []struct {
		list []impl.Lift
		l    impl.Lift
		code int64
	}{
		{nil, lift("a", 5), impl.OK},
		{[]impl.Lift{}, lift("a", 5), impl.OK},
		{nil, lift("a", 5, 0), impl.ErrState},
		{nil, impl.Lift{}, impl.ErrState},
		{free(3), lift("d", 5), impl.OK},
		{free(3), lift("d", 5, 0, 1, 2), impl.OK},
		{free(3), lift("d", 5, 2), impl.OK},
		{free(3), lift("d", 5, 3), impl.ErrState},
		{free(3), lift("d", 5, -1), impl.ErrState},
		{free(3), lift("d", 5, 1, 1), impl.ErrState},
		{free(3), lift("d", 5, 1, 0), impl.ErrState},
		{free(3), lift("", 5), impl.ErrState},
		{free(3), lift("A", 5), impl.ErrState},
		{free(9), lift("j", 5, 8), impl.OK},
		{free(9), lift("i", 5, 8), impl.ErrExists},
		// A name that is taken comes before a list that is full, and before all else that is wrong with a lift.
		{free(3), lift("a", 5), impl.ErrExists},
		{free(3), lift("c", 5, 3), impl.ErrExists},
		{free(3), impl.Lift{Name: "b"}, impl.ErrExists},
		{full, lift("a", 5), impl.ErrExists},
		{full, lift("j", 0, -1), impl.ErrExists},
		// A list that is full comes before a lift that is wrong.
		{full, lift("k", 5), impl.ErrFull},
		{full, lift("k", 5, 9), impl.ErrFull},
		{full, lift("k", 5, 10), impl.ErrFull},
		{full, lift("", 0, -1), impl.ErrFull},
		{full, impl.Lift{}, impl.ErrFull},
		// A list that is not valid comes first.
		{free(11), lift("l", 5), impl.ErrInvalid},
		{free(11), lift("a", 5), impl.ErrInvalid},
		{chain(11), impl.Lift{}, impl.ErrInvalid},
		{[]impl.Lift{lift("a", 0)}, lift("a", 5), impl.ErrInvalid},
		{[]impl.Lift{{}}, impl.Lift{}, impl.ErrInvalid},
	}
	for i, x := range cases {
		got, c := impl.AddLift(x.list, x.l)
		same(t, "code of case "+strconv.Itoa(i), c, x.code)
		want := []impl.Lift{}
		if c == impl.OK {
			want = append(copiedList(x.list), x.l)
		}
		sameLifts(t, "list of case "+strconv.Itoa(i), got, want)
	}
}

func TestAddLiftOfManyLists(t *testing.T) {
	for _, list := range someLifts(10) {
		// A list is built again from its own lifts.
		built := []impl.Lift{}
		for _, l := range list {
			got, c := impl.AddLift(built, l)
			same(t, "code of AddLift", c, impl.OK)
			built = got
			_, c = impl.AddLift(built, l)
			same(t, "code of a lift that is there", c, impl.ErrExists)
		}
		sameLifts(t, "built", built, list)
		for _, change := range badFields() {
			l := lift("new", 5)
			change(&l)
			got, c := impl.AddLift(list, l)
			want := int64(impl.ErrState)
			if len(list) == 10 {
				want = impl.ErrFull
			}
			same(t, "code of a bad lift "+liftWords(l), c, want)
			same(t, "lifts beside an error", len(got), 0)
		}
	}
	for _, list := range badLifts() {
		got, c := impl.AddLift(list, lift("new", 5))
		same(t, "code for "+listWords(list), c, impl.ErrInvalid)
		same(t, "lifts beside an error", len(got), 0)
	}
	for _, after := range badAfters() {
		_, c := impl.AddLift(free(3), lift("new", 5, after...))
		same(t, "code after "+numbersText(after, 0), c, impl.ErrState)
	}
}

func TestDropLiftAsTold(t *testing.T) {
	six := liftsAfter(nil, nil, []int64{0}, []int64{0, 2}, nil, []int64{0, 3, 4})
	cases := []struct {
		list  []impl.Lift
		k     int64
		after [][]int64
		names string
		code  int64
	}{
		{free(1), 0, [][]int64{}, "", impl.OK},
		{free(3), 0, [][]int64{nil, nil}, "bc", impl.OK},
		{free(3), 1, [][]int64{nil, nil}, "ac", impl.OK},
		{free(3), 2, [][]int64{nil, nil}, "ab", impl.OK},
		{chain(3), 0, nil, "", impl.ErrState},
		{chain(3), 1, nil, "", impl.ErrState},
		{chain(3), 2, [][]int64{nil, {0}}, "ab", impl.OK},
		// Indices in front of the lift stay, those behind it become less.
		{six, 1, [][]int64{nil, {0}, {0, 1}, nil, {0, 2, 3}}, "acdef", impl.OK},
		{six, 5, [][]int64{nil, nil, {0}, {0, 2}, nil}, "abcde", impl.OK},
		{six, 0, nil, "", impl.ErrState},
		{six, 2, nil, "", impl.ErrState},
		{six, 3, nil, "", impl.ErrState},
		{six, 4, nil, "", impl.ErrState},
		{six, 6, nil, "", impl.ErrRange},
		{six, -1, nil, "", impl.ErrRange},
		{nil, 0, nil, "", impl.ErrRange},
		{nil, -1, nil, "", impl.ErrRange},
		{free(10), 10, nil, "", impl.ErrRange},
		{free(10), 9, make([][]int64, 9), "abcdefghi", impl.OK},
		{free(11), 10, nil, "", impl.ErrInvalid},
		{free(11), 11, nil, "", impl.ErrInvalid},
		{[]impl.Lift{lift("a", 5), lift("b", 0, 0)}, 0, nil, "", impl.ErrInvalid},
		{[]impl.Lift{lift("a", 5), lift("b", 0)}, -1, nil, "", impl.ErrInvalid},
	}
	for i, x := range cases {
		got, c := impl.DropLift(x.list, x.k)
		want := liftsAfter(x.after...)
		for k := range want {
			want[k].Name = x.names[k : k+1]
		}
		same(t, "code of case "+strconv.Itoa(i), c, x.code)
		sameLifts(t, "list of case "+strconv.Itoa(i), got, want)
	}
}

// afterNames has the names of the lifts that a lift is after.
func afterNames(list []impl.Lift, l impl.Lift) []string {
	names := []string{}
	for _, k := range l.After {
		names = append(names, list[k].Name)
	}
	return names
}

// The names that each lift is after stay the same, whatever becomes of the indices.
func TestDropLiftOfManyLists(t *testing.T) {
	dropped := 0
	for _, list := range someLifts(10) {
		for k := range int64(len(list)) {
			got, c := impl.DropLift(list, k)
			needed := slices.ContainsFunc(list, func(l impl.Lift) bool { return slices.Contains(l.After, k) })
			if needed {
				same(t, "code of a lift that is needed", c, impl.ErrState)
				same(t, "lifts beside an error", len(got), 0)
				continue
			}
			dropped++
			same(t, "code of DropLift", c, impl.OK)
			same(t, "number of lifts", len(got), len(list)-1)
			same(t, "valid", impl.ValidLifts(got), true)
			rest := slices.Delete(slices.Clone(list), int(k), int(k)+1)
			for i, l := range got {
				same(t, "needed names", slices.Equal(afterNames(got, l), afterNames(list, rest[i])), true)
				l.After = rest[i].After
				same(t, "a lift that stays", equalLift(l, rest[i]), true)
			}
		}
	}
	same(t, "enough lifts were dropped", dropped > 300, true)
}

func TestReadyLiftsAsTold(t *testing.T) {
	last := liftsAfter(nil, nil, []int64{0, 1})
	cases := []struct {
		list []impl.Lift
		done int64
		want []int64
		code int64
	}{
		{last, 0, []int64{0, 1}, impl.OK},
		{last, 1, []int64{1}, impl.OK},
		{last, 2, []int64{0}, impl.OK},
		{last, 3, []int64{2}, impl.OK},
		{last, 7, nil, impl.OK},
		// What is done need not have been ready: only the After of a lift itself are looked at.
		{last, 4, []int64{0, 1}, impl.OK},
		{last, 5, []int64{1}, impl.OK},
		{chain(4), 2, []int64{0, 2}, impl.OK},
		{chain(4), 4, []int64{0, 3}, impl.OK},
		{chain(4), 8, []int64{0}, impl.OK},
		{chain(4), 15, nil, impl.OK},
		{last, 8, nil, impl.ErrRange},
		{last, 9, nil, impl.ErrRange},
		{last, 15, nil, impl.ErrRange},
		{last, 1 << 62, nil, impl.ErrRange},
		{last, 1 << 32, nil, impl.ErrRange},
		{last, -1, nil, impl.ErrRange},
		{last, -8, nil, impl.ErrRange},
		{last, math.MinInt64, nil, impl.ErrRange},
		{last, math.MinInt64 + 1, nil, impl.ErrRange},
		{last, math.MaxInt64, nil, impl.ErrRange},
		{nil, 0, nil, impl.OK},
		{nil, 1, nil, impl.ErrRange},
		{nil, -1, nil, impl.ErrRange},
		{free(10), 0, []int64{0, 1, 2, 3, 4, 5, 6, 7, 8, 9}, impl.OK},
		{free(10), 512, []int64{0, 1, 2, 3, 4, 5, 6, 7, 8}, impl.OK},
		{free(10), 1023, nil, impl.OK},
		{free(10), 1024, nil, impl.ErrRange},
		{all(10), 511, []int64{9}, impl.OK},
		{all(10), 510, []int64{0}, impl.OK},
		{free(11), 0, nil, impl.ErrInvalid},
		{free(11), -1, nil, impl.ErrInvalid},
		{[]impl.Lift{lift("a", 0)}, 8, nil, impl.ErrInvalid},
	}
	for i, x := range cases {
		got, c := impl.ReadyLifts(x.list, x.done)
		same(t, "code of case "+strconv.Itoa(i), c, x.code)
		sameNumbers(t, "lifts of case "+strconv.Itoa(i), got, x.want)
	}
}

// Promise 8: a lift is ready just when it is not done, and all that it is after is.
func TestPromise8ReadyLifts(t *testing.T) {
	seen := map[string]int{}
	for _, list := range someLifts(10) {
		for done := range int64(1) << len(list) {
			got, c := impl.ReadyLifts(list, done)
			same(t, "code of ReadyLifts", c, impl.OK)
			want := readyAfter(list, bits(done))
			sameNumbers(t, "ready lifts of "+listWords(list)+" after "+numbersText(bits(done), 0), got, want)
			seen[strconv.Itoa(len(want))+" ready"]++
		}
		for _, more := range []int64{1 << len(list), -1, -2, 1 << 40, math.MinInt64} {
			_, c := impl.ReadyLifts(list, more)
			same(t, "code with "+impl.Decimal(more), c, impl.ErrRange)
		}
	}
	for n := range 11 {
		same(t, strconv.Itoa(n)+" ready", seen[strconv.Itoa(n)+" ready"] > 0, true)
	}
}

// Promise 8, by the program's own functions: when all that a lift needs is done, it is ready, and when only the lifts that were ready are done one after the other, no other one is.
func TestPromise8NeededLiftsAreDone(t *testing.T) {
	r := rand.New(rand.NewSource(81))
	for _, list := range someLifts(10) {
		needed := make([]int64, len(list))
		for k := range list {
			needed[k], _ = impl.NeededLifts(list, int64(k))
			ready, c := impl.ReadyLifts(list, needed[k])
			same(t, "code of ReadyLifts", c, impl.OK)
			same(t, "ready when all that is needed is done", slices.Contains(ready, int64(k)), true)
		}
		done := int64(0)
		for range list {
			ready, _ := impl.ReadyLifts(list, done)
			for k := range list {
				want := done>>k%2 == 0 && needed[k]&done == needed[k]
				same(t, "ready", slices.Contains(ready, int64(k)), want)
			}
			done += 1 << ready[r.Intn(len(ready))]
		}
		same(t, "all are done", done, int64(1)<<len(list)-1)
	}
}

func TestNeededLiftsAsTold(t *testing.T) {
	cases := []struct {
		list    []impl.Lift
		k, want int64
		code    int64
	}{
		{liftsAfter(nil, nil, []int64{0, 1}), 2, 3, impl.OK},
		{liftsAfter(nil, nil, []int64{0, 1}), 1, 0, impl.OK},
		{chain(10), 9, 511, impl.OK},
		{chain(10), 8, 255, impl.OK},
		{chain(10), 0, 0, impl.OK},
		{all(10), 9, 511, impl.OK},
		{free(10), 9, 0, impl.OK},
		{diamond(), 1, 1, impl.OK},
		{diamond(), 3, 7, impl.OK},
		{diamond(), 4, 15, impl.OK},
		{diamond(), 5, 0, impl.OK},
		{tree(10), 9, 1 + 2 + 16, impl.OK},
		{liftsAfter(nil, nil, []int64{1}, []int64{2}), 3, 6, impl.OK},
		{chain(3), 3, 0, impl.ErrRange},
		{chain(3), -1, 0, impl.ErrRange},
		{chain(3), math.MinInt64, 0, impl.ErrRange},
		{chain(3), math.MaxInt64, 0, impl.ErrRange},
		{nil, 0, 0, impl.ErrRange},
		{chain(11), 10, 0, impl.ErrInvalid},
		{chain(11), 11, 0, impl.ErrInvalid},
		{[]impl.Lift{lift("a", 5, 0)}, 0, 0, impl.ErrInvalid},
		{[]impl.Lift{lift("a", 5, 1), lift("b", 5, 0)}, 5, 0, impl.ErrInvalid},
	}
	for i, x := range cases {
		got, c := impl.NeededLifts(x.list, x.k)
		same(t, "code of case "+strconv.Itoa(i), c, x.code)
		same(t, "set of case "+strconv.Itoa(i), got, x.want)
	}
}

func TestNeededLiftsOfManyLists(t *testing.T) {
	for _, list := range someLifts(10) {
		table := needs(list)
		for k := range list {
			want := int64(0)
			for before, needed := range table[k] {
				if needed {
					want += 1 << before
				}
			}
			got, c := impl.NeededLifts(list, int64(k))
			same(t, "lifts that "+impl.Decimal(int64(k))+" of "+listWords(list)+" needs", got, want)
			same(t, "code", c, impl.OK)
		}
	}
}

func TestIsLiftOrderAsTold(t *testing.T) {
	last := liftsAfter(nil, nil, []int64{0, 1})
	cases := []struct {
		list  []impl.Lift
		order []int64
		want  bool
	}{
		{last, []int64{0, 1, 2}, true},
		{last, []int64{1, 0, 2}, true},
		{last, []int64{0, 2, 1}, false},
		{last, []int64{2, 0, 1}, false},
		{last, []int64{2, 1, 0}, false},
		// Too short, too long, an index twice, or out of range.
		{last, nil, false},
		{last, []int64{0, 1}, false},
		{last, []int64{0}, false},
		{last, []int64{0, 1, 2, 2}, false},
		{last, []int64{0, 1, 2, 3}, false},
		{last, []int64{0, 0, 1, 2}, false},
		{last, []int64{0, 1, 1}, false},
		{last, []int64{0, 0, 2}, false},
		{last, []int64{0, 0, 1}, false},
		{last, []int64{0, 1, 3}, false},
		{last, []int64{0, 1, -1}, false},
		{last, []int64{-1, 0, 1}, false},
		{last, []int64{0, 1, math.MaxInt64}, false},
		{last, []int64{math.MinInt64, 0, 1}, false},
		{last, []int64{0, 1, 66}, false},
		{free(2), []int64{0, 0}, false},
		{free(2), []int64{1, 0}, true},
		{free(2), []int64{1, 2}, false},
		{free(2), slices.Repeat([]int64{0, 1}, 5000), false},
		{nil, nil, true},
		{[]impl.Lift{}, []int64{}, true},
		{nil, []int64{0}, false},
		{chain(10), []int64{0, 1, 2, 3, 4, 5, 6, 7, 8, 9}, true},
		{chain(10), []int64{0, 1, 2, 3, 4, 5, 6, 7, 9, 8}, false},
		{free(10), []int64{9, 8, 7, 6, 5, 4, 3, 2, 1, 0}, true},
		{free(11), []int64{0, 1, 2, 3, 4, 5, 6, 7, 8, 9, 10}, false},
		{[]impl.Lift{lift("a", 5), lift("a", 5)}, []int64{0, 1}, false},
		{[]impl.Lift{lift("a", 5), lift("b", 0)}, []int64{0, 1}, false},
		{[]impl.Lift{lift("a", 5, 0)}, []int64{0}, false},
		{[]impl.Lift{lift("a", 5, 1), lift("b", 5)}, []int64{1, 0}, false},
	}
	for i, x := range cases {
		same(t, "case "+strconv.Itoa(i), impl.IsLiftOrder(x.list, x.order), x.want)
	}
	for _, list := range badLifts() {
		order := []int64{}
		for k := range list {
			order = append(order, int64(k))
		}
		same(t, "order of "+listWords(list[:min(len(list), 12)]), impl.IsLiftOrder(list, order), false)
	}
}

// All orders of up to 7 lifts are told apart and counted.
func TestOrdersOfSmallLists(t *testing.T) {
	for _, list := range someLifts(6) {
		orders := int64(0)
		permutations(int64(len(list)), func(order []int64) {
			want := followed(list, order)
			same(t, "order "+numbersText(order, 0)+" of "+listWords(list), impl.IsLiftOrder(list, order), want)
			if want {
				orders++
			}
		})
		got, c := impl.CountLiftOrders(list)
		same(t, "orders of "+listWords(list), got, orders)
		same(t, "code", c, impl.OK)
	}
}

// pairs has n pairs of lifts, of which one is needed by the other one.
func pairs(n int) []impl.Lift {
	after := [][]int64{}
	for k := range int64(n) {
		after = append(after, nil, []int64{2 * k})
	}
	return liftsAfter(after...)
}

func TestCountLiftOrdersAsTold(t *testing.T) {
	cases := []struct {
		list []impl.Lift
		want int64
	}{
		{nil, 1}, {free(1), 1}, {free(2), 2}, {chain(2), 1},
		{liftsAfter(nil, nil, []int64{0, 1}), 2},
		{liftsAfter(nil, []int64{0}, []int64{0}), 2},
		{free(9), 362880}, {free(10), 3628800}, {chain(10), 1}, {all(10), 1},
		// Each pair halves the number of orders.
		{pairs(5), 3628800 / 32},
		// 10! divided by the number of lifts in each branch: 10, 6, 3, 3, 2 and ones.
		{tree(10), 3628800 / (10 * 6 * 3 * 3 * 2)},
		{append(free(9), lift("last", 5, 0, 1, 2, 3, 4, 5, 6, 7, 8)), 362880},
		// Two chains of five are two colours among ten.
		{liftsAfter(nil, []int64{0}, []int64{1}, []int64{2}, []int64{3}, nil, []int64{5}, []int64{6}, []int64{7}, []int64{8}), 252},
		{diamond(), 12},
	}
	for i, x := range cases {
		got, c := impl.CountLiftOrders(x.list)
		same(t, "orders of case "+strconv.Itoa(i), got, x.want)
		same(t, "code of case "+strconv.Itoa(i), c, impl.OK)
	}
}

// countBackwards counts the orders of a set of lifts by the lift that is last, which no other one of the set may need.
func countBackwards(list []impl.Lift, set int64, known map[int64]int64) int64 {
	if set == 0 {
		return 1
	}
	if n, ok := known[set]; ok {
		return n
	}
	n := int64(0)
	for _, k := range bits(set) {
		if !slices.ContainsFunc(bits(set), func(other int64) bool { return slices.Contains(list[other].After, k) }) {
			n += countBackwards(list, set-1<<k, known)
		}
	}
	known[set] = n
	return n
}

func TestCountLiftOrdersOfManyLists(t *testing.T) {
	for _, list := range someLifts(10) {
		got, c := impl.CountLiftOrders(list)
		same(t, "orders of "+listWords(list), got, countBackwards(list, 1<<len(list)-1, map[int64]int64{}))
		same(t, "code", c, impl.OK)
	}
}

// withDeadlines sets the deadlines of a list.
func withDeadlines(list []impl.Lift, deadlines ...int64) []impl.Lift {
	for k, n := range deadlines {
		list[k].Deadline = n
	}
	return list
}

func TestUrgentOrderAsTold(t *testing.T) {
	last := func() []impl.Lift { return liftsAfter(nil, nil, []int64{0, 1}) }
	cases := []struct {
		list []impl.Lift
		want []int64
	}{
		{nil, nil},
		{free(1), []int64{0}},
		{withDeadlines(last(), 50, 20, 10), []int64{1, 0, 2}},
		{withDeadlines(last(), 20, 50, 10), []int64{0, 1, 2}},
		// Equal deadlines: the first one of several.
		{withDeadlines(last(), 20, 20, 20), []int64{0, 1, 2}},
		{free(10), []int64{0, 1, 2, 3, 4, 5, 6, 7, 8, 9}},
		{withDeadlines(free(5), 7, 5, 7, 5, 7), []int64{1, 3, 0, 2, 4}},
		{withDeadlines(free(4), 1000000, 1, 999999, 1), []int64{1, 3, 2, 0}},
		// A lift with an early deadline does not pull those that it is after to the front.
		{withDeadlines(liftsAfter(nil, nil, []int64{0}), 50, 20, 10), []int64{1, 0, 2}},
		{withDeadlines(liftsAfter(nil, nil, []int64{0}), 20, 50, 60), []int64{0, 1, 2}},
		// A lift that becomes ready comes before those that were ready already, and a tie goes to the lesser index, not to the one that was ready first.
		{withDeadlines(liftsAfter(nil, nil, []int64{0}), 20, 50, 30), []int64{0, 2, 1}},
		{withDeadlines(liftsAfter(nil, []int64{0}, nil), 20, 50, 50), []int64{0, 1, 2}},
		{withDeadlines(liftsAfter(nil, nil, []int64{1}, nil), 9, 1, 5, 5), []int64{1, 2, 3, 0}},
		{withDeadlines(chain(4), 9, 8, 7, 6), []int64{0, 1, 2, 3}},
	}
	for i, x := range cases {
		got, c := impl.UrgentOrder(x.list)
		sameNumbers(t, "order of case "+strconv.Itoa(i), got, x.want)
		same(t, "code of case "+strconv.Itoa(i), c, impl.OK)
	}
}

// Each lift of the order is compared with all that could have been in its place.
func TestUrgentOrderOfManyLists(t *testing.T) {
	ties := 0
	for _, list := range someLifts(10) {
		order, c := impl.UrgentOrder(list)
		same(t, "code", c, impl.OK)
		same(t, "number of lifts", len(order), len(list))
		same(t, "it is an order", impl.IsLiftOrder(list, order), true)
		for i, k := range order {
			for _, other := range readyAfter(list, order[:i]) {
				sooner := list[other].Deadline < list[k].Deadline || list[other].Deadline == list[k].Deadline && other < k
				same(t, "a sooner one than "+impl.Decimal(k)+" of "+listWords(list), sooner, false)
				if other != k && list[other].Deadline == list[k].Deadline {
					ties++
				}
			}
		}
	}
	same(t, "equal deadlines", ties > 100, true)
}

// levelOf goes back along all chains.
func levelOf(list []impl.Lift, k int64) int64 {
	longest := int64(0)
	for _, before := range list[k].After {
		longest = max(longest, levelOf(list, before))
	}
	return longest + 1
}

func TestLevelsOf(t *testing.T) {
	cases := []struct {
		list []impl.Lift
		want []int64
	}{
		{nil, nil},
		{free(3), []int64{1, 1, 1}},
		{chain(10), []int64{1, 2, 3, 4, 5, 6, 7, 8, 9, 10}},
		{all(10), []int64{1, 2, 3, 4, 5, 6, 7, 8, 9, 10}},
		{tree(10), []int64{1, 2, 2, 3, 3, 3, 3, 4, 4, 4}},
		{diamond(), []int64{1, 2, 2, 3, 4, 1}},
		{liftsAfter(nil, nil, []int64{0, 1}), []int64{1, 1, 2}},
		// The greatest level counts, not the last one.
		{liftsAfter(nil, []int64{0}, nil, []int64{1, 2}), []int64{1, 2, 1, 3}},
		{liftsAfter(nil, nil, []int64{1}, []int64{0, 2}), []int64{1, 1, 2, 3}},
	}
	for i, x := range cases {
		got, c := impl.LevelsOf(x.list)
		sameNumbers(t, "levels of case "+strconv.Itoa(i), got, x.want)
		same(t, "code of case "+strconv.Itoa(i), c, impl.OK)
	}
	for _, list := range someLifts(10) {
		want := []int64{}
		for k := range list {
			want = append(want, levelOf(list, int64(k)))
		}
		got, c := impl.LevelsOf(list)
		sameNumbers(t, "levels of "+listWords(list), got, want)
		same(t, "code", c, impl.OK)
	}
}

func TestLiftText(t *testing.T) {
	list := []impl.Lift{
		{Name: "beam-1", Weight: 1500, From: impl.Point{X: 100}, To: impl.Point{X: -7, Y: 200}, Height: 100, Deadline: 1000},
		{Name: "b", Weight: 1, From: impl.Point{X: -10000, Y: -10000}, To: impl.Point{X: 10000, Y: 10000}, Height: 0, Deadline: 1, After: []int64{}},
		{Name: "c", Weight: 50000, Height: 2000, Deadline: 1000000, After: []int64{0}},
		{Name: "d234567890-2", Weight: 20, From: impl.Point{X: 1, Y: 2}, To: impl.Point{X: 1, Y: 2}, Height: 30, Deadline: 40, After: []int64{1, 2}},
		{Name: "e", Weight: 20, From: impl.Point{Y: -1}, To: impl.Point{X: -1}, Height: 30, Deadline: 40, After: []int64{0, 1, 2, 3}},
	}
	texts := []string{
		"beam-1 1500kg 100,0 -7,200 100", "b 1kg -10000,-10000 10000,10000 0", "c 50000kg 0,0 0,0 2000 after beam-1",
		"d234567890-2 20kg 1,2 1,2 30 after b,c", "e 20kg 0,-1 -1,0 30 after beam-1,b,c,d234567890-2",
	}
	for k, want := range texts {
		got, c := impl.LiftText(list, int64(k))
		same(t, "text", got, want)
		same(t, "code", c, impl.OK)
	}
	cases := []struct {
		list []impl.Lift
		k    int64
		code int64
	}{
		{list, 5, impl.ErrRange}, {list, -1, impl.ErrRange}, {list, math.MaxInt64, impl.ErrRange}, {list, math.MinInt64, impl.ErrRange}, {nil, 0, impl.ErrRange},
		{free(11), 0, impl.ErrInvalid}, {free(11), 11, impl.ErrInvalid}, {free(11), -1, impl.ErrInvalid},
		{append(slices.Clone(list), lift("b", 5)), 0, impl.ErrInvalid}, {append(slices.Clone(list), lift("f", 5, 5)), 9, impl.ErrInvalid},
	}
	for i, x := range cases {
		got, c := impl.LiftText(x.list, x.k)
		same(t, "code of case "+strconv.Itoa(i), c, x.code)
		same(t, "text of case "+strconv.Itoa(i), got, "")
	}
	for _, list := range someLifts(10) {
		for k, l := range list {
			want := l.Name + " " + strconv.FormatInt(l.Weight, 10) + "kg"
			for _, p := range []impl.Point{l.From, l.To} {
				want += " " + strconv.FormatInt(p.X, 10) + "," + strconv.FormatInt(p.Y, 10)
			}
			want += " " + strconv.FormatInt(l.Height, 10)
			for i, name := range afterNames(list, l) {
				want += []string{" after ", ","}[min(i, 1)] + name
			}
			got, c := impl.LiftText(list, int64(k))
			same(t, "text", got, want)
			same(t, "code", c, impl.OK)
		}
	}
}

// liftCall is one call with a list and a number, and tells when the number is in range.
type liftCall struct {
	name    string
	inRange func(list []impl.Lift, n int64) bool
	call    func(list []impl.Lift, n int64) string
}

// isIndex reports whether there is a lift n.
func isIndex(list []impl.Lift, n int64) bool { return within(n, 0, int64(len(list))-1) }

func anyNumber([]impl.Lift, int64) bool { return true }

// liftCalls has the calls that return a code, which is the first number of their text.
func liftCalls() []liftCall {
	coded := func(n, c int64) string { return numbersText([]int64{n}, c) }
	lifts := func(list []impl.Lift, c int64) string { return impl.Decimal(c) + " " + listWords(list) }
	return []liftCall{
		{"AddLift", anyNumber, func(list []impl.Lift, n int64) string { return lifts(impl.AddLift(list, lift("new", n))) }},
		{"DropLift", isIndex, func(list []impl.Lift, n int64) string { return lifts(impl.DropLift(list, n)) }},
		{"ReadyLifts", func(list []impl.Lift, n int64) bool { return within(n, 0, 1<<len(list)-1) }, func(list []impl.Lift, n int64) string {
			return numbersText(impl.ReadyLifts(list, n))
		}},
		{"NeededLifts", isIndex, func(list []impl.Lift, n int64) string { return coded(impl.NeededLifts(list, n)) }},
		{"CountLiftOrders", anyNumber, func(list []impl.Lift, _ int64) string { return coded(impl.CountLiftOrders(list)) }},
		{"UrgentOrder", anyNumber, func(list []impl.Lift, _ int64) string { return numbersText(impl.UrgentOrder(list)) }},
		{"LevelsOf", anyNumber, func(list []impl.Lift, _ int64) string { return numbersText(impl.LevelsOf(list)) }},
		{"LiftText", isIndex, func(list []impl.Lift, n int64) string {
			text, c := impl.LiftText(list, n)
			return impl.Decimal(c) + " " + text
		}},
	}
}

// nothing has the texts of an error, beside which there is no value.
func nothing(code int64) []string {
	return []string{impl.Decimal(code), impl.Decimal(code) + " ", impl.Decimal(code) + " 0"}
}

func TestLiftErrorOrder(t *testing.T) {
	numbers := append([]int64{2, 3, 4, 7, 8, 9, 15, 16, 1023, 1024}, edges...)
	for _, x := range liftCalls() {
		for _, n := range numbers {
			what := x.name + " of " + impl.Decimal(n)
			for _, list := range badLifts() {
				if got := x.call(list, n); !slices.Contains(nothing(impl.ErrInvalid), got) {
					t.Errorf("%s with no lifts %s: got %s", what, listWords(list[:min(len(list), 12)]), got)
				}
			}
			for _, list := range goodLifts() {
				got := x.call(list, n)
				same(t, what+" with "+listWords(list), slices.Contains(nothing(impl.ErrRange), got), !x.inRange(list, n))
				same(t, what+" with good lifts", strings.HasPrefix(got, impl.Decimal(impl.ErrInvalid)+" "), false)
			}
		}
	}
}

// spareLifts returns a copy of a list with more lifts and indices in unused capacity, and all of its memory.
func spareLifts(list []impl.Lift) (part, whole []impl.Lift, afters [][]int64) {
	whole = append(slices.Clone(list), lift("spare", 5, 0), impl.Lift{Name: "spare-too", Weight: -7})
	for k := range whole {
		indices := append(slices.Clone(whole[k].After), 0, -7, 1)
		whole[k].After = indices[:len(whole[k].After)]
		afters = append(afters, indices)
	}
	return whole[:len(list)], whole, afters
}

// Promise 1: no function changes a list, a lift, an order or their spare memory, and equal arguments have equal results, whatever they are.
func TestPromise1Lifts(t *testing.T) {
	for i, list := range slices.Concat(someLifts(10), badLifts()) {
		if len(list) > 1000 {
			list = list[:1000]
		}
		part, whole, afters := spareLifts(list)
		keptWhole, keptAfters := copiedList(whole), [][]int64{}
		for _, indices := range afters {
			keptAfters = append(keptAfters, slices.Clone(indices))
		}
		for k := range 12 {
			n := edges[(k*7+i)%len(edges)]
			for _, x := range liftCalls() {
				same(t, x.name+" twice", x.call(part, int64(k)), x.call(list, int64(k)))
				same(t, x.name+" twice", x.call(part, n), x.call(list, n))
			}
			same(t, "SameLifts", impl.SameLifts(part, list), true)
			order := []int64{n, int64(k), 0, 1, 2}
			given := order[:k%4]
			same(t, "IsLiftOrder twice", impl.IsLiftOrder(part, given), impl.IsLiftOrder(list, slices.Clone(given)))
			sameNumbers(t, "memory of the order", order, []int64{n, int64(k), 0, 1, 2})
		}
		same(t, "ValidLifts twice", impl.ValidLifts(part), impl.ValidLifts(list))
		sameLifts(t, "memory of the list", whole, keptWhole)
		for k, indices := range afters {
			sameNumbers(t, "memory of an After", indices, keptAfters[k])
		}
	}
}

// Promise 1: the lift that is added is not changed, nor its spare memory.
func TestPromise1AddedLifts(t *testing.T) {
	for _, list := range goodLifts() {
		whole := []int64{0, 1, -7, 2}
		for n := range 5 {
			l := lift("new", 5, whole[:n]...)
			before := liftWords(l)
			one, first := impl.AddLift(list, l)
			two, second := impl.AddLift(list, lift("new", 5, slices.Clone(whole[:n])...))
			sameLifts(t, "added twice", one, two)
			same(t, "code twice", first, second)
			same(t, "the lift that is added", liftWords(l), before)
			sameNumbers(t, "memory of its After", whole, []int64{0, 1, -7, 2})
		}
	}
}

// scribbleLifts writes to all memory of a list.
func scribbleLifts(list []impl.Lift) {
	lifts := list[:cap(list)]
	for k := range lifts {
		indices := lifts[k].After[:cap(lifts[k].After)]
		for i := range indices {
			indices[i] = -7
		}
		lifts[k] = impl.Lift{Name: "scribbled", Weight: -7}
	}
}

// Promise 1: lists that are returned share no memory with what is given, and no two of their After share any.
func TestPromise1LiftsAreNew(t *testing.T) {
	for _, list := range someLifts(9) {
		l := lift("new", 5)
		if len(list) > 0 {
			// The After of two lifts may share memory when they are given.
			l.After = list[len(list)-1].After
		}
		kept, keptLift := copiedList(list), copiedList([]impl.Lift{l})
		calls := []func() ([]impl.Lift, int64){func() ([]impl.Lift, int64) { return impl.AddLift(list, l) }}
		for k := range list {
			calls = append(calls, func() ([]impl.Lift, int64) { return impl.DropLift(list, int64(k)) })
		}
		for i, call := range calls {
			got, c := call()
			if c != impl.OK {
				continue
			}
			first := copiedList(got)
			for k := range got {
				before := copiedList(got)
				for j := range got[k].After {
					got[k].After[j] -= 7
					before[k].After[j] -= 7
				}
				_ = append(got[k].After, -7)
				sameLifts(t, "call "+strconv.Itoa(i)+" after one After was changed", got, before)
			}
			scribbleLifts(got)
			sameLifts(t, "the list that was given", list, kept)
			sameLifts(t, "the lift that was given", []impl.Lift{l}, keptLift)
			again, _ := call()
			sameLifts(t, "call "+strconv.Itoa(i)+" again", again, first)
		}
	}
}

// Promise 1: lists of numbers are new as well.
func TestPromise1LiftNumbersAreNew(t *testing.T) {
	list := withDeadlines(diamond(), 9, 8, 7, 6, 5, 4)
	calls := []func() []int64{
		func() []int64 { got, _ := impl.ReadyLifts(list, 1); return got },
		func() []int64 { got, _ := impl.UrgentOrder(list); return got },
		func() []int64 { got, _ := impl.LevelsOf(list); return got },
	}
	for i, call := range calls {
		first := call()
		kept := slices.Clone(first)
		for j := range first[:cap(first)] {
			first[:cap(first)][j] = -7
		}
		sameNumbers(t, "call "+strconv.Itoa(i)+" again", call(), kept)
	}
}
