package weigh_test

import (
	"math"
	"slices"
	"testing"

	"reliquary/api"
	"reliquary/code"
	"reliquary/weigh"
)

// wantedOf: how often each place is wanted that is, the most wanted first.
func wantedOf(l []int) []int {
	var wanted []int
	for _, often := range l {
		if often > 0 {
			wanted = append(wanted, often)
		}
	}
	slices.Sort(wanted)
	slices.Reverse(wanted)
	return wanted
}

// fewest: the fewest bits of all codes with lengths up to most, told apart from any way to build one: from length to
// length, with so many codes free there, either the most wanted place of those left takes one, or all that is left
// takes a bit more, and what is free is twice as much.
func fewest(l []int, most int) int {
	wanted := wantedOf(l)
	if len(wanted) < 2 {
		return sumOf(wanted)
	}
	n := len(wanted)
	deeper := table(n) // of the length one greater, by how many are placed, and how many codes are free
	for range most + 1 {
		here := table(n)
		for placed := n; placed >= 0; placed-- {
			left := sumOf(wanted[placed:])
			for free := range n + 1 {
				here[placed][free] = left + deeper[placed][min(2*free, n)]
				if placed == n {
					here[placed][free] = 0
				} else if free > 0 {
					here[placed][free] = min(here[placed][free], here[placed+1][free-1])
				}
			}
		}
		deeper = here
	}
	return deeper[0][1]
}

// table: of each two numbers up to n more bits than there are.
func table(n int) [][]int {
	rows := make([][]int, n+1)
	for i := range rows {
		rows[i] = slices.Repeat([]int{math.MaxInt / 4}, n+1)
	}
	return rows
}

func sumOf(l []int) int {
	sum := 0
	for _, n := range l {
		sum += n
	}
	return sum
}

// fewestOfAll: the fewest bits of all codes with lengths up to most, one by one.
func fewestOfAll(l []int, most int) int {
	best := math.MaxInt
	for _, lengths := range lists(len(l), most) {
		if code.Check(lengths) != api.OK {
			continue
		}
		if cost, e := weigh.Cost(l, lengths); e == api.OK {
			best = min(best, cost)
		}
	}
	return best
}

// lists: all lists of so many numbers from 0 to most.
func lists(many, most int) [][]int {
	if many == 0 {
		return [][]int{nil}
	}
	var all [][]int
	for _, l := range lists(many-1, most) {
		for n := range most + 1 {
			all = append(all, append(slices.Clone(l), n))
		}
	}
	return all
}

// noise: numbers from 0 to below most that differ.
func noise(many, most int, seed uint32) []int {
	l := make([]int, many)
	x := seed
	for i := range l {
		x = x*1664525 + 1013904223
		l[i] = int(x>>8) % most
	}
	return l
}

// doubling: 1, 1, 2, 4, and so on: each is wanted as often as all ahead of it.
func doubling(many int) []int {
	l := []int{1, 1}
	for len(l) < many {
		l = append(l, 2*l[len(l)-1])
	}
	return l[:many]
}

// rabbits: 1, 1, 2, 3, 5, and so on: without a bound their code is as deep as can be.
func rabbits(many int) []int {
	l := []int{1, 1}
	for len(l) < many {
		l = append(l, l[len(l)-1]+l[len(l)-2])
	}
	return l[:many]
}

// steep: as many places as there may be, few of which are wanted often.
func steep() []int {
	l := make([]int, api.MaxSymbols)
	for i := range l {
		l[i] = api.MaxStamp / (1 + i*7%api.MaxSymbols*(i*7%api.MaxSymbols))
	}
	return l
}

// samples: lists of many kinds, with 0 among them.
func samples() [][]int {
	all := [][]int{{3, 5}, {0, 7, 0, 7, 0}, {5, 5, 5}, {1, 2, 3, 4, 5}, {0, 9, 9, 0, 1, 1, 1000000},
		doubling(20), rabbits(29), steep(), slices.Repeat([]int{1}, api.MaxSymbols),
		slices.Repeat([]int{api.MaxStamp}, api.MaxSymbols)}
	for i, many := range []int{3, 10, 33, 100, 257, api.MaxSymbols} {
		all = append(all, noise(many, 2, uint32(i)), noise(many, 5, uint32(i)+77), noise(many, 1000, uint32(i)+777),
			noise(many, api.MaxStamp+1, uint32(i)+7777))
	}
	return all
}

// wantBest: does Lengths answer a code as the chapter asks, and so many bits?
func wantBest(t *testing.T, l []int, most, want int) {
	t.Helper()
	lengths, e := weigh.Lengths(l, most)
	if e != api.OK || len(lengths) != len(l) {
		t.Fatalf("Lengths of %v, most %d: %v %v", l, most, lengths, e)
	}
	for i, n := range lengths {
		if (l[i] > 0) != (n > 0) || n < 0 || n > most {
			t.Fatalf("Lengths of %v, most %d: %d of place %d", l, most, n, i)
		}
	}
	if full, e := code.Full(lengths); e != api.OK || full != (len(wantedOf(l)) > 0) {
		t.Fatalf("Lengths of %v, most %d: %v: full: %v %v", l, most, lengths, full, e)
	}
	if cost, e := weigh.Cost(l, lengths); cost != want || e != api.OK {
		t.Fatalf("Lengths of %v, most %d: %v: %d bits %v, want %d", l, most, lengths, cost, e, want)
	}
}

func wantLengths(t *testing.T, l []int, most int, want []int) {
	t.Helper()
	if lengths, e := weigh.Lengths(l, most); !slices.Equal(lengths, want) || e != api.OK {
		t.Errorf("Lengths of %v, most %d: %v %v, want %v", l, most, lengths, e, want)
	}
}

func wantNoLengths(t *testing.T, l []int, most int, want api.Errno) {
	t.Helper()
	if lengths, e := weigh.Lengths(l, most); lengths != nil || e != want {
		t.Errorf("Lengths of %d, most %d: %v %v, want %v", len(l), most, lengths, e, want)
	}
}

func wantCost(t *testing.T, l, lengths []int, want int, wantErr api.Errno) {
	t.Helper()
	if cost, e := weigh.Cost(l, lengths); cost != want || e != wantErr {
		t.Errorf("Cost of %d by %d lengths: %d %v, want %d %v", len(l), len(lengths), cost, e, want, wantErr)
	}
}

func TestLengthsOfNothingAndOfOneAlone(t *testing.T) {
	for most := 1; most <= api.MaxBits; most++ {
		wantLengths(t, nil, most, nil)
		wantLengths(t, []int{}, most, nil)
		wantLengths(t, []int{0}, most, []int{0})
		wantLengths(t, make([]int, api.MaxSymbols), most, make([]int, api.MaxSymbols))
		for _, often := range []int{1, 2, 9, api.MaxStamp} {
			wantLengths(t, []int{often}, most, []int{1})
			wantLengths(t, []int{0, 0, often, 0}, most, []int{0, 0, 1, 0})
			wantLengths(t, []int{often, 0, 1}, most, []int{1, 0, 1})
			wantLengths(t, []int{1, often}, most, []int{1, 1})
		}
		last := make([]int, api.MaxSymbols)
		last[api.MaxSymbols-1] = 1
		wantLengths(t, last, most, last)
	}
}

func TestLengths(t *testing.T) {
	wantLengths(t, []int{1, 1, 2, 4}, 15, []int{3, 3, 2, 1})
	wantLengths(t, []int{1, 1, 2, 4}, 3, []int{3, 3, 2, 1})
	wantLengths(t, []int{1, 1, 2, 4}, 2, []int{2, 2, 2, 2})
	wantLengths(t, []int{4, 0, 1, 2, 0, 1}, 15, []int{1, 0, 3, 2, 0, 3})
	wantLengths(t, []int{5, 5, 6}, 2, []int{2, 2, 1})
	wantLengths(t, []int{api.MaxStamp, 1, 1}, 15, []int{1, 2, 2})
	wantLengths(t, slices.Repeat([]int{3}, 8), 15, slices.Repeat([]int{3}, 8))
	wantBest(t, rabbits(8), 4, 135)
	wantBest(t, rabbits(8), 15, 132)
}

// As many as have room all have the greatest length, however often they are wanted; one more has none.
func TestJustAsManyAsHaveRoomAndOneMore(t *testing.T) {
	for most := 1; 1<<most <= api.MaxSymbols; most++ {
		room := 1 << most
		l := slices.Concat(noise(room, api.MaxStamp, 5), []int{0})
		for i := range room {
			l[i]++
		}
		want := slices.Repeat([]int{most}, room)
		wantLengths(t, l, most, append(want, 0))
		wantNoLengths(t, append(l, 1), most, api.ErrFull)
		wantNoLengths(t, append([]int{1, 0}, l...), most, api.ErrFull)
		less := append([]int{}, l...)
		less[0] = 0
		wantBest(t, less, most, fewest(less, most))
	}
	ones := slices.Repeat([]int{1}, api.MaxSymbols)
	for most := 1; most <= 8; most++ {
		wantNoLengths(t, ones, most, api.ErrFull)
	}
	for most := 9; most <= api.MaxBits; most++ {
		// 224 of 8 bits, 64 of 9.
		wantBest(t, ones, most, 224*8+64*9)
	}
}

// Lists whose code without a bound is deeper than the bound.
func TestMostBinds(t *testing.T) {
	for many := 3; many <= 20; many++ {
		l := doubling(many)
		for most := 1; most <= api.MaxBits; most++ {
			if many > 1<<most {
				wantNoLengths(t, l, most, api.ErrFull)
				continue
			}
			wantBest(t, l, most, fewest(l, most))
		}
	}
	// 16 have room without the bound; of 17 the two rarest become a bit shorter each, and the one wanted
	// four times a bit longer.
	wantBest(t, doubling(16), 15, 1<<16-2)
	wantBest(t, doubling(17), 15, 1<<17)
}

func TestAllShortLists(t *testing.T) {
	for many := range 5 {
		for _, l := range lists(many, 5) {
			for most := 1; most <= 4; most++ {
				if len(wantedOf(l)) > 1<<most {
					wantNoLengths(t, l, most, api.ErrFull)
				} else {
					wantBest(t, l, most, fewest(l, most))
				}
			}
		}
	}
}

func TestNoCodeTakesFewer(t *testing.T) {
	shapes := [][]int{{1, 1, 1, 1, 1}, {1, 1, 2, 3, 5}, {1, 1, 2, 4, 8}, {9, 0, 2, 2, 1}, {7, 7, 7, 1, 50}, {3, 4, 0, 0, 0}}
	for _, l := range shapes {
		for most := 1; most <= 4; most++ {
			if len(wantedOf(l)) > 1<<most {
				continue
			}
			wantBest(t, l, most, fewestOfAll(l, most))
		}
	}
}

func TestFewestBitsOfManyKinds(t *testing.T) {
	for _, l := range samples() {
		ahead := math.MaxInt
		for most := 1; most <= api.MaxBits; most++ {
			if len(wantedOf(l)) > 1<<most {
				wantNoLengths(t, l, most, api.ErrFull)
				continue
			}
			want := fewest(l, most)
			wantBest(t, l, most, want)
			if want > ahead {
				t.Errorf("%v: with %d bits of room more is taken", l, most)
			}
			ahead = want
		}
	}
}

// The lengths of any one list are a code for any other one: it takes no fewer.
func TestLengthsOfOthersTakeNoFewer(t *testing.T) {
	for seed := range uint32(30) {
		l := noise(60, 1000, seed)
		best, _ := weigh.Lengths(l, api.MaxBits)
		bits, _ := weigh.Cost(l, best)
		for other := range uint32(30) {
			others := noise(60, 1000, other)
			for i := range others {
				others[i]++
			}
			lengths, _ := weigh.Lengths(others, 6+int(other)%9)
			if cost, e := weigh.Cost(l, lengths); cost < bits || e != api.OK {
				t.Fatalf("%v takes %d by %v, %d by its own %v: %v", l, cost, lengths, bits, best, e)
			}
		}
	}
}

func TestLengthsRange(t *testing.T) {
	for _, often := range []int{-1, api.MaxStamp + 1, math.MinInt, math.MaxInt} {
		wantNoLengths(t, []int{often}, 1, api.ErrRange)
		wantNoLengths(t, []int{1, 0, often, 2}, 15, api.ErrRange)
		// It is told ahead of too little room, wherever it stands.
		wantNoLengths(t, []int{often, 1, 1, 1}, 1, api.ErrRange)
		wantNoLengths(t, []int{1, 1, 1, often}, 1, api.ErrRange)
	}
	for _, most := range []int{-1, 0, api.MaxBits + 1, 63, 64, math.MinInt, math.MaxInt} {
		wantNoLengths(t, nil, most, api.ErrRange)
		wantNoLengths(t, []int{0, 0}, most, api.ErrRange)
		wantNoLengths(t, []int{1, 2}, most, api.ErrRange)
		wantNoLengths(t, []int{-1, 2}, most, api.ErrRange)
		wantNoLengths(t, slices.Repeat([]int{1}, api.MaxSymbols), most, api.ErrRange)
	}
	wantLengths(t, []int{api.MaxStamp, api.MaxStamp}, api.MaxBits, []int{1, 1})
}

func TestLengthsMany(t *testing.T) {
	for _, often := range []int{0, 1, -1, api.MaxStamp, api.MaxStamp + 1} {
		for _, most := range []int{0, 1, 8, api.MaxBits, api.MaxBits + 1} {
			wantNoLengths(t, slices.Repeat([]int{often}, api.MaxSymbols+1), most, api.ErrMany)
		}
	}
	// What stands in the spare room behind a list is none of it.
	wantLengths(t, make([]int, api.MaxSymbols+1)[:2], 1, []int{0, 0})
	wantLengths(t, []int{1, 1, 1}[:2], 1, []int{1, 1})
}

func TestCost(t *testing.T) {
	wantCost(t, nil, nil, 0, api.OK)
	wantCost(t, []int{}, nil, 0, api.OK)
	wantCost(t, []int{0, 0}, []int{0, 0}, 0, api.OK)
	wantCost(t, []int{1, 1, 2, 4}, []int{3, 3, 2, 1}, 14, api.OK)
	wantCost(t, []int{1, 1, 2, 4}, []int{1, 2, 3, 3}, 21, api.OK)
	// A length of what isn't wanted takes nothing.
	wantCost(t, []int{5, 0}, []int{2, 15}, 10, api.OK)
	// Whether they make a code, isn't asked.
	wantCost(t, []int{1, 1, 1}, []int{1, 1, 1}, 3, api.OK)
	wantCost(t, []int{7}, []int{15}, 105, api.OK)
	wantCost(t, slices.Repeat([]int{api.MaxStamp}, api.MaxSymbols), slices.Repeat([]int{api.MaxBits}, api.MaxSymbols),
		api.MaxStamp*api.MaxSymbols*api.MaxBits, api.OK)
}

func TestCostErrors(t *testing.T) {
	ok := []int{1, 0, 2}
	wantCost(t, []int{1}, nil, 0, api.ErrForm)
	wantCost(t, nil, []int{0}, 0, api.ErrForm)
	wantCost(t, ok, []int{1, 0}, 0, api.ErrForm)
	wantCost(t, ok, []int{1, 0, 1, 0}, 0, api.ErrForm)
	for _, n := range []int{-1, api.MaxBits + 1, math.MinInt, math.MaxInt} {
		wantCost(t, ok, []int{n, 0, 1}, 0, api.ErrRange)
		wantCost(t, ok, []int{1, n, 1}, 0, api.ErrRange) // of what isn't wanted, too
		wantCost(t, ok, []int{1, 0, n}, 0, api.ErrRange)
	}
	wantCost(t, ok, []int{0, 1, 1}, 0, api.ErrRange)
	wantCost(t, ok, []int{1, 1, 0}, 0, api.ErrRange)
	for _, often := range []int{-1, api.MaxStamp + 1, math.MinInt, math.MaxInt} {
		wantCost(t, []int{1, often}, []int{1, 1}, 0, api.ErrRange)
		wantCost(t, []int{1, often}, []int{1, 0}, 0, api.ErrRange)
	}
}

func TestCostWhichErrorIsFirst(t *testing.T) {
	many := make([]int, api.MaxSymbols+1)
	wrong := slices.Repeat([]int{-1}, api.MaxSymbols+1)
	// Not as many are told ahead of all.
	wantCost(t, many, many[1:], 0, api.ErrForm)
	wantCost(t, many[1:], many, 0, api.ErrForm)
	wantCost(t, wrong, wrong[1:], 0, api.ErrForm)
	wantCost(t, []int{-1}, nil, 0, api.ErrForm)
	wantCost(t, []int{1}, []int{-1, -1}, 0, api.ErrForm)
	// Too many are told ahead of what may not be.
	wantCost(t, many, many, 0, api.ErrMany)
	wantCost(t, wrong, many, 0, api.ErrMany)
	wantCost(t, many, wrong, 0, api.ErrMany)
	wantCost(t, many[1:], many[1:], 0, api.OK)
	wantCost(t, many[1:], wrong[1:], 0, api.ErrRange)
}

func TestWhatIsHandedInStays(t *testing.T) {
	l := []int{4, 1, 2, 1, 7, 8, 9}
	lengths, e := weigh.Lengths(l[:4], 15)
	if e != api.OK || !slices.Equal(l, []int{4, 1, 2, 1, 7, 8, 9}) {
		t.Errorf("Lengths changed what it was given, or its spare room: %v %v", l, e)
	}
	spare := append(slices.Clone(lengths), 7, 8)
	kept := slices.Clone(spare)
	wantCost(t, l[:4], spare[:4], 14, api.OK)
	if !slices.Equal(l, []int{4, 1, 2, 1, 7, 8, 9}) || !slices.Equal(spare, kept) {
		t.Errorf("Cost changed what it was given, or its spare room: %v %v", l, spare)
	}
	for i := range lengths {
		lengths[i] = -1
	}
	if !slices.Equal(l, []int{4, 1, 2, 1, 7, 8, 9}) {
		t.Error("what Lengths answers is the list that was handed in")
	}
	// What was changed in the answer is not told by the next one.
	wantLengths(t, l[:4], 15, []int{1, 3, 2, 3})
}
