package layout_test

import (
	"slices"
	"testing"

	"reliquary/api"
	"reliquary/layout"
)

// The tables of RFC 1951, 3.2.5 and 3.2.7, as they stand there.
var (
	sameBase = []int{3, 4, 5, 6, 7, 8, 9, 10, 11, 13, 15, 17, 19, 23, 27, 31, 35, 43, 51, 59, 67, 83, 99, 115, 131, 163, 195, 227, 258}
	sameBits = []int{0, 0, 0, 0, 0, 0, 0, 0, 1, 1, 1, 1, 2, 2, 2, 2, 3, 3, 3, 3, 4, 4, 4, 4, 5, 5, 5, 5, 0}
	farBase  = []int{1, 2, 3, 4, 5, 7, 9, 13, 17, 25, 33, 49, 65, 97, 129, 193, 257, 385, 513, 769, 1025, 1537, 2049, 3073, 4097, 6145, 8193, 12289, 16385, 24577}
	farBits  = []int{0, 0, 0, 0, 1, 1, 2, 2, 3, 3, 4, 4, 5, 5, 6, 6, 7, 7, 8, 8, 9, 9, 10, 10, 11, 11, 12, 12, 13, 13}
	places   = []int{16, 17, 18, 0, 8, 7, 9, 6, 10, 5, 11, 4, 12, 3, 13, 2, 14, 1, 15}
)

func TestLeast(t *testing.T) {
	for i := range sameBase {
		if least, size := layout.LeastSame(257 + i); least != sameBase[i] || size != sameBits[i] {
			t.Errorf("LeastSame(%d): %d %d, want %d %d", 257+i, least, size, sameBase[i], sameBits[i])
		}
	}
	for i := range farBase {
		if least, size := layout.LeastFar(i); least != farBase[i] || size != farBits[i] {
			t.Errorf("LeastFar(%d): %d %d, want %d %d", i, least, size, farBase[i], farBits[i])
		}
	}
}

func TestSymbols(t *testing.T) {
	for n := api.MinSame; n <= api.MaxSame; n++ {
		symbol, rest, size := layout.Same(n)
		if symbol < 257 || symbol > 285 || sameBase[symbol-257]+rest != n || sameBits[symbol-257] != size || rest >= 1<<size {
			t.Errorf("Same(%d): %d %d %d", n, symbol, rest, size)
		}
	}
	if symbol, _, _ := layout.Same(api.MaxSame); symbol != 285 {
		t.Errorf("%d bytes are told by %d", api.MaxSame, symbol)
	}
	for n := 1; n <= 32768; n++ {
		symbol, rest, size := layout.Far(n)
		if symbol < 0 || symbol > 29 || farBase[symbol]+rest != n || farBits[symbol] != size || rest >= 1<<size {
			t.Errorf("Far(%d): %d %d %d", n, symbol, rest, size)
		}
	}
}

func TestTables(t *testing.T) {
	order := layout.Order()
	if !slices.Equal(order[:], places) {
		t.Errorf("Order: %v", order)
	}
	symbols, fars := layout.FixedLengths()
	want := slices.Concat(slices.Repeat([]int{8}, 144), slices.Repeat([]int{9}, 112), slices.Repeat([]int{7}, 24), slices.Repeat([]int{8}, 8))
	if !slices.Equal(symbols[:], want) || !slices.Equal(fars[:], slices.Repeat([]int{5}, 32)) {
		t.Errorf("FixedLengths: %v %v", symbols, fars)
	}
}
