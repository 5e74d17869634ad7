package bits_test

import (
	"math"
	mathbits "math/bits"
	"slices"
	"strings"
	"testing"

	"reliquary/api"
	"reliquary/bits"
)

// written: the bits of a row as text, in the order in which they stand.
func written(row []byte) string {
	var s strings.Builder
	for _, b := range row {
		for i := range 8 {
			s.WriteByte('0' + b>>i&1)
		}
	}
	return s.String()
}

// lowestFirst: a number of so many bits as text, its lowest bit first.
func lowestFirst(n, size int) string {
	var s strings.Builder
	for range size {
		s.WriteByte('0' + byte(n%2))
		n /= 2
	}
	return s.String()
}

// filled: a text of bits with zeros up to whole bytes.
func filled(s string) string {
	for len(s)%8 != 0 {
		s += "0"
	}
	return s
}

// sample: pairs of all sizes from 0 to 16 with numbers that differ, no two runs of sizes alike.
func sample(many int) [][2]int {
	l := make([][2]int, many)
	x := uint32(12345)
	for i := range l {
		x = x*1664525 + 1013904223
		size := int(x>>8) % 17
		l[i] = [2]int{int(x>>12) & (1<<size - 1), size}
	}
	return l
}

// split: the numbers and the sizes of pairs.
func split(l [][2]int) (numbers, sizes []int) {
	for _, p := range l {
		numbers = append(numbers, p[0])
		sizes = append(sizes, p[1])
	}
	return numbers, sizes
}

func wantPack(t *testing.T, l [][2]int, want []byte, wantErr api.Errno) {
	t.Helper()
	got, e := bits.Pack(l)
	if !slices.Equal(got, want) || e != wantErr {
		t.Errorf("Pack of %d pairs: %v %v, want %v %v", len(l), got, e, want, wantErr)
	}
	if e != api.OK && got != nil {
		t.Errorf("Pack: a list beside the error %v", e)
	}
}

func wantUnpack(t *testing.T, b []byte, sizes, want []int, wantErr api.Errno) {
	t.Helper()
	got, e := bits.Unpack(b, sizes)
	if !slices.Equal(got, want) || e != wantErr {
		t.Errorf("Unpack of %d bytes, %d sizes: %v %v, want %v %v", len(b), len(sizes), got, e, want, wantErr)
	}
	if e != api.OK && got != nil {
		t.Errorf("Unpack: a list beside the error %v", e)
	}
}

func wantTurn(t *testing.T, n, size, want int, wantErr api.Errno) {
	t.Helper()
	if got, e := bits.Turn(n, size); got != want || e != wantErr {
		t.Errorf("Turn(%d, %d): %d %v, want %d %v", n, size, got, e, want, wantErr)
	}
}

func TestPackLaysLowestBitFirst(t *testing.T) {
	wantPack(t, nil, nil, api.OK)
	wantPack(t, [][2]int{}, nil, api.OK)
	wantPack(t, [][2]int{{0, 0}, {0, 0}}, nil, api.OK)
	wantPack(t, [][2]int{{1, 1}}, []byte{1}, api.OK)
	wantPack(t, [][2]int{{0, 1}}, []byte{0}, api.OK)
	wantPack(t, [][2]int{{0, 7}, {1, 1}}, []byte{128}, api.OK)
	wantPack(t, [][2]int{{0, 8}, {1, 1}}, []byte{0, 1}, api.OK)
	wantPack(t, [][2]int{{0x1234, 16}}, []byte{0x34, 0x12}, api.OK)
	wantPack(t, [][2]int{{1, 1}, {0xFFFF, 16}}, []byte{0xFF, 0xFF, 1}, api.OK)
	wantPack(t, [][2]int{{5, 3}, {0, 0}, {1, 7}}, []byte{13, 0}, api.OK)
}

func TestPackIsTheBitsOneBehindTheOther(t *testing.T) {
	for many := range 200 {
		l := sample(many)
		want := ""
		for _, p := range l {
			want += lowestFirst(p[0], p[1])
		}
		row, e := bits.Pack(l)
		if e != api.OK || written(row) != filled(want) {
			t.Fatalf("Pack of %d pairs: %v %s, want %s", many, e, written(row), filled(want))
		}
	}
}

func TestPackRange(t *testing.T) {
	for size := range 17 {
		wantPack(t, [][2]int{{1 << size, size}}, nil, api.ErrRange)
		wantPack(t, [][2]int{{-1, size}}, nil, api.ErrRange)
		if _, e := bits.Pack([][2]int{{1<<size - 1, size}}); e != api.OK {
			t.Errorf("the greatest number of %d bits: %v", size, e)
		}
	}
	for _, size := range []int{-1, 17, 64, math.MinInt, math.MaxInt} {
		wantPack(t, [][2]int{{0, size}}, nil, api.ErrRange)
	}
	wantPack(t, [][2]int{{math.MaxInt, 16}}, nil, api.ErrRange)
	wantPack(t, [][2]int{{math.MinInt, 16}}, nil, api.ErrRange)
	wantPack(t, [][2]int{{1, 1}, {1, 1}, {2, 1}}, nil, api.ErrRange)
	wantPack(t, [][2]int{{1, 17}, {1, 1}}, nil, api.ErrRange)
}

func TestPackMany(t *testing.T) {
	most := slices.Repeat([][2]int{{0xFFFF, 16}}, api.MaxBytes)
	wantPack(t, most, slices.Repeat([]byte{0xFF}, 2*api.MaxBytes), api.OK)
	wantPack(t, append(most, [2]int{0, 0}), nil, api.ErrMany)
	// Too many are told ahead of a pair that may not be.
	wantPack(t, slices.Repeat([][2]int{{-1, 99}}, api.MaxBytes+1), nil, api.ErrMany)
	wantPack(t, slices.Repeat([][2]int{{-1, 99}}, api.MaxBytes), nil, api.ErrRange)
}

func TestUnpackReadsLowestBitFirst(t *testing.T) {
	wantUnpack(t, nil, nil, nil, api.OK)
	wantUnpack(t, []byte{}, []int{}, nil, api.OK)
	wantUnpack(t, nil, []int{0, 0}, []int{0, 0}, api.OK)
	wantUnpack(t, []byte{255}, nil, nil, api.OK)
	wantUnpack(t, []byte{255}, []int{0, 3, 0}, []int{0, 7, 0}, api.OK)
	wantUnpack(t, []byte{0x34, 0x12}, []int{16}, []int{0x1234}, api.OK)
	wantUnpack(t, []byte{0x34, 0x12, 9}, []int{4, 8, 4}, []int{4, 0x23, 1}, api.OK)
	wantUnpack(t, []byte{0xFE, 0xFF, 1}, []int{1, 16}, []int{0, 0xFFFF}, api.OK)
}

func TestUnpackTorn(t *testing.T) {
	wantUnpack(t, nil, []int{1}, nil, api.ErrTorn)
	wantUnpack(t, []byte{1}, []int{8}, []int{1}, api.OK)
	wantUnpack(t, []byte{1}, []int{8, 0}, []int{1, 0}, api.OK)
	wantUnpack(t, []byte{1}, []int{9}, nil, api.ErrTorn)
	wantUnpack(t, []byte{1}, []int{8, 1}, nil, api.ErrTorn)
	wantUnpack(t, []byte{1, 2}, []int{1, 16}, nil, api.ErrTorn)
	// What stands in the spare room behind a row is none of it.
	wantUnpack(t, []byte{1, 2, 3}[:1], []int{16}, nil, api.ErrTorn)
}

func TestUnpackRange(t *testing.T) {
	for _, size := range []int{-1, 17, math.MinInt, math.MaxInt} {
		wantUnpack(t, []byte{1, 2, 3}, []int{size}, nil, api.ErrRange)
		wantUnpack(t, []byte{1, 2, 3}, []int{0, 16, size}, nil, api.ErrRange)
		// A wrong size is told ahead of bits that aren't there, wherever it stands.
		wantUnpack(t, nil, []int{16, size}, nil, api.ErrRange)
		wantUnpack(t, nil, []int{size, 16}, nil, api.ErrRange)
	}
	// Sizes that would make up for each other are wrong still.
	wantUnpack(t, []byte{1}, []int{16, -16}, nil, api.ErrRange)
	wantUnpack(t, nil, []int{math.MaxInt, 1}, nil, api.ErrRange)
}

func TestUnpackMany(t *testing.T) {
	row := slices.Repeat([]byte{0xFF}, api.MaxPacked)
	sizes := slices.Repeat([]int{16}, api.MaxBytes)
	wantUnpack(t, row, sizes, slices.Repeat([]int{0xFFFF}, api.MaxBytes), api.OK)
	wantUnpack(t, append(row, 0), nil, nil, api.ErrMany)
	wantUnpack(t, nil, make([]int, api.MaxBytes), make([]int, api.MaxBytes), api.OK)
	wantUnpack(t, nil, make([]int, api.MaxBytes+1), nil, api.ErrMany)
	// Too many are told ahead of a wrong size, and of bits that aren't there.
	wantUnpack(t, append(row, 0), []int{17}, nil, api.ErrMany)
	wantUnpack(t, nil, slices.Repeat([]int{-1}, api.MaxBytes+1), nil, api.ErrMany)
	wantUnpack(t, nil, slices.Repeat([]int{16}, api.MaxBytes+1), nil, api.ErrMany)
	wantUnpack(t, row[1:], sizes, nil, api.ErrTorn)
}

func TestTurn(t *testing.T) {
	wantTurn(t, 0, 0, 0, api.OK)
	wantTurn(t, 1, 1, 1, api.OK)
	wantTurn(t, 1, 2, 2, api.OK)
	wantTurn(t, 6, 3, 3, api.OK)
	wantTurn(t, 1, 16, 1<<15, api.OK)
	for size := range 17 {
		for n := range 1 << size {
			wantTurn(t, n, size, int(mathbits.Reverse16(uint16(n))>>(16-size)), api.OK)
		}
	}
}

func TestTurnRange(t *testing.T) {
	for size := range 17 {
		wantTurn(t, 1<<size, size, 0, api.ErrRange)
		wantTurn(t, -1, size, 0, api.ErrRange)
		wantTurn(t, math.MaxInt, size, 0, api.ErrRange)
		wantTurn(t, math.MinInt, size, 0, api.ErrRange)
	}
	for _, size := range []int{-1, 17, 64, math.MinInt, math.MaxInt} {
		wantTurn(t, 0, size, 0, api.ErrRange)
		wantTurn(t, 1, size, 0, api.ErrRange)
		wantTurn(t, -1, size, 0, api.ErrRange)
	}
}

func TestUnpackOfPackIsTheNumbers(t *testing.T) {
	for _, many := range []int{0, 1, 2, 17, 100, 999, api.MaxBytes} {
		l := sample(many)
		numbers, sizes := split(l)
		row, e := bits.Pack(l)
		if e != api.OK {
			t.Fatalf("Pack of %d pairs: %v", many, e)
		}
		wantUnpack(t, row, sizes, numbers, api.OK)
	}
}

func TestTurnedTwiceIsItself(t *testing.T) {
	for size := range 17 {
		for n := range 1 << size {
			once, e := bits.Turn(n, size)
			if e != api.OK {
				t.Fatalf("Turn(%d, %d): %v", n, size, e)
			}
			wantTurn(t, once, size, n, api.OK)
		}
	}
}

// A code stands with its highest bit first: that is the turned number.
func TestTurnedNumberStandsAsACode(t *testing.T) {
	turned, _ := bits.Turn(6, 4)
	row, e := bits.Pack([][2]int{{turned, 4}})
	if e != api.OK || written(row) != "01100000" {
		t.Errorf("the code 0110: %s %v", written(row), e)
	}
}

func TestWhatIsHandedInStays(t *testing.T) {
	pairs := sample(20)
	keptPairs := slices.Clone(pairs)
	row, e := bits.Pack(pairs[:10])
	if e != api.OK || !slices.Equal(pairs, keptPairs) {
		t.Errorf("Pack changed what it was given, or its spare room: %v", e)
	}
	_, sizes := split(pairs)
	keptSizes := slices.Clone(sizes)
	spare := append(slices.Clone(row), 1, 2, 3, 4)
	keptSpare := slices.Clone(spare)
	numbers, e := bits.Unpack(spare[:len(row)], sizes[:10])
	if e != api.OK || !slices.Equal(spare, keptSpare) || !slices.Equal(sizes, keptSizes) {
		t.Errorf("Unpack changed what it was given, or its spare room: %v", e)
	}
	for i := range numbers {
		numbers[i] = -1
	}
	if !slices.Equal(sizes, keptSizes) {
		t.Error("what Unpack answers is the list of sizes")
	}
}

func TestAnswersAreNewMemory(t *testing.T) {
	l := sample(10)
	first, _ := bits.Pack(l)
	second, _ := bits.Pack(l)
	kept := slices.Clone(second)
	for i := range first {
		first[i]++
	}
	if !slices.Equal(second, kept) {
		t.Error("two answers of Pack share memory")
	}
	third, _ := bits.Pack(l)
	if !slices.Equal(third, kept) {
		t.Error("Pack answers otherwise the second time")
	}
}
