package inflate_test

import (
	"slices"
	"strconv"
	"testing"

	"reliquary/api"
)

// wantTold: what is written must be wrong with its last bit, and not sooner. So it is written behind blocks that end at
// each of the eight bits of a byte; with nothing behind it, and with whatever may come; and cut behind each of its bits.
func wantTold(t *testing.T, what string, e api.Errno, write func(w *writer)) {
	t.Helper()
	cuts, exact := map[int]int{}, 0
	for shift := range 8 {
		w := &writer{}
		w.shift(shift)
		from := len(w.bits)
		write(w)
		for _, bit := range []byte{'0', '1'} {
			filled := &writer{bits: slices.Clone(w.bits)}
			filled.fill(bit)
			wantError(t, what, filled.row(), e)
			more := slices.Concat(filled.row(), slices.Repeat([]byte{255 * (bit - '0')}, 50))
			wantError(t, what+", bytes behind it", more, e)
		}
		if len(w.bits)%8 == 0 {
			exact++
		}
		for k := from; k < len(w.bits); k++ {
			if k%8 == 0 {
				cuts[k-from]++
				wantError(t, what+", cut behind bit "+strconv.Itoa(k-from), rowOf(string(w.bits[:k])), api.ErrTorn)
			}
		}
	}
	if exact == 0 || len(cuts) == 0 {
		t.Errorf("%s: %d rows end with what is wrong, %d cuts", what, exact, len(cuts))
	}
}

// A right row must go on up to its last bit.
func TestCutBehindEachBit(t *testing.T) {
	for kind := range 3 {
		for ahead := range 3 {
			for shift := range 8 {
				w := &writer{}
				w.shift(shift)
				w.as(ahead, false, literals('a', 'b', 200)...)
				w.as(kind, true, append(literals('c'), api.Token{Same: 12, Far: 4})...)
				row := w.row()
				for k := range row {
					wantError(t, "cut", row[:k], api.ErrTorn)
				}
				wantAnswer(t, "whole", row, w.said, len(row), w.kinds, api.OK)
			}
		}
	}
}

// A row without a last block ends too soon, wherever it does.
func TestNoLastBlock(t *testing.T) {
	for kind := range 3 {
		for shift := range 8 {
			w := &writer{}
			w.shift(shift)
			w.as(kind, false, literals('x')...)
			wantError(t, "no last block", rowOf(string(w.bits[:len(w.bits)/8*8])), api.ErrTorn)
		}
	}
}

func TestKindThatIsNone(t *testing.T) {
	for _, last := range []bool{false, true} {
		wantTold(t, "kind 3", api.ErrForm, func(w *writer) { w.head(last, 3) })
	}
}

func TestStoredNumbers(t *testing.T) {
	for _, many := range []int{0, 1, 255, 256, 3000, 3001, 65535} {
		for bit := range 16 {
			wantTold(t, "one bit isn't turned", api.ErrForm, func(w *writer) {
				w.head(true, stored)
				w.size(many, ^many^1<<bit)
			})
		}
		for _, turned := range []int{many, -many, ^many + 1, ^many - 1} {
			if turned&0xFFFF == ^many&0xFFFF {
				continue
			}
			wantTold(t, "numbers that don't belong together", api.ErrForm, func(w *writer) {
				w.head(false, stored)
				w.size(many, turned)
			})
		}
	}
}

func TestTooManyLengths(t *testing.T) {
	for symbols := 257; symbols <= 288; symbols++ {
		for fars := 1; fars <= 32; fars++ {
			if symbols <= 286 && fars <= 30 {
				continue
			}
			wantTold(t, "too many lengths", api.ErrCode, func(w *writer) {
				w.head(true, dynamic)
				w.counts(symbols, fars, 4+(symbols+fars)%16)
			})
		}
	}
	// As many as may be: 286, and 30.
	w := &writer{}
	w.dynamic(true, lengths(286, map[int]int{256: 1, 285: 1}), lengths(30, map[int]int{29: 1, 0: 1}))
	wantSaid(t, "as many lengths as may be", w)
}

// Told when all of them are read, even where the first ones are too many already.
func TestCodeOfLengthsIsNone(t *testing.T) {
	for many := 4; many <= 19; many++ {
		for _, own := range [][]int{
			lengths(19, map[int]int{16: 1, 17: 1, 18: 7}),
			lengths(19, map[int]int{16: 1, 17: 1, 18: 1, 0: 1}),
			slices.Repeat([]int{1}, 19),
			slices.Repeat([]int{2}, 19),
			lengths(19, map[int]int{16: 1, 17: 1, ownPlaces[many-1]: 1, 18: 2}),
		} {
			if slices.Equal(own, slices.Repeat([]int{2}, 19)) && many == 4 {
				continue
			}
			wantTold(t, "the code of lengths is none", api.ErrCode, func(w *writer) {
				w.head(true, dynamic)
				w.counts(257, 1, many)
				w.own(own, many)
			})
		}
	}
}

func TestNoneAheadOfA16(t *testing.T) {
	wantTold(t, "none ahead of a 16", api.ErrCode, func(w *writer) {
		w.head(true, dynamic)
		w.counts(257, 1, 19)
		w.own(flat, 19)
		w.code(flat, 16)
	})
	// A code of lengths that has the 16 alone.
	wantTold(t, "none ahead of a 16", api.ErrCode, func(w *writer) {
		own := lengths(19, map[int]int{16: 1})
		w.head(true, dynamic)
		w.counts(257, 1, 4)
		w.own(own, 4)
		w.code(own, 16)
	})
}

// So many lengths are wanted; all up to so many from the end are told, then a few too many.
func TestATimeTooOften(t *testing.T) {
	for _, fars := range []int{1, 2, 30} {
		for left := 1; left < 138; left++ {
			ahead := append(zerosOf(256+fars-left), [2]int{1})
			for _, r := range []struct{ symbol, least, size int }{{16, 3, 2}, {17, 3, 3}, {18, 11, 7}} {
				rest := max(left+1-r.least, 0)
				if rest >= 1<<r.size || left > 13 && left != 30 && left < 137 {
					continue
				}
				wantTold(t, "a time too often", api.ErrCode, func(w *writer) {
					w.head(true, dynamic)
					w.counts(257, fars, 19)
					w.own(flat, 19)
					w.told(flat, ahead...)
					w.told(flat, [2]int{r.symbol, rest})
				})
			}
		}
	}
}

func TestTheEndHasNoLength(t *testing.T) {
	for _, l := range [][]int{
		make([]int, 257),
		make([]int, 286),
		lengths(257, map[int]int{'a': 1}),
		lengths(258, map[int]int{'a': 1, 257: 1}),
		// Lengths that make no code, too.
		lengths(286, map[int]int{1: 1, 2: 1, 285: 1}),
	} {
		wantTold(t, "256 has no length", api.ErrCode, func(w *writer) {
			w.head(true, dynamic)
			w.codes(l, []int{1, 1})
		})
	}
}

func TestLengthsThatMakeNoCode(t *testing.T) {
	right, fars := lengths(257, map[int]int{'a': 1, 256: 1}), []int{1, 1}
	for _, c := range [][2][]int{
		{lengths(257, map[int]int{'a': 1, 'b': 1, 256: 15}), fars},
		{lengths(257, map[int]int{'a': 1, 'b': 15, 256: 1}), nil},
		{slices.Repeat([]int{8}, 257), fars},
		{lengths(286, map[int]int{256: 2, 258: 2, 270: 2, 280: 2, 285: 2}), fars},
		{right, []int{1, 1, 15}},
		{right, slices.Repeat([]int{4}, 17)},
		{right, slices.Repeat([]int{1}, 29)},
		{slices.Repeat([]int{1}, 257), []int{1, 1, 1}},
	} {
		wantTold(t, "lengths that make no code", api.ErrCode, func(w *writer) {
			w.head(true, dynamic)
			w.codes(c[0], append(c[1], 0))
		})
	}
	// As many as there is room for.
	w := &writer{}
	w.dynamic(true, slices.Repeat([]int{9}, 286), append(slices.Repeat([]int{4}, 14), 5, 5, 5, 5), append(literals(1, 255), api.Token{Same: 3, Far: 2})...)
	wantSaid(t, "codes", w)
}

// Bits are no code when 15 of them were read, however short the codes are.
func TestBitsThatAreNoCode(t *testing.T) {
	symbols := lengths(258, map[int]int{'a': 2, 256: 2, 257: 2})
	wantTold(t, "of a symbol", api.ErrCode, func(w *writer) {
		w.head(true, dynamic)
		w.codes(symbols, []int{1})
		w.put("00 00 11 0101010101010")
	})
	for _, fars := range [][]int{{0}, make([]int, 30), {0, 1}, {2, 2, 2}} {
		wantTold(t, "of how far", api.ErrCode, func(w *writer) {
			w.head(true, dynamic)
			w.codes(symbols, fars)
			w.put("00 10 111 111111111111")
		})
	}
	wantTold(t, "of how far, no length at all", api.ErrCode, func(w *writer) {
		w.head(true, dynamic)
		w.codes(symbols, []int{0})
		w.put("00 10 000 000000000000")
	})
	for _, own := range [][]int{make([]int, 19), lengths(19, map[int]int{0: 1}), lengths(19, map[int]int{0: 1, 1: 7})} {
		wantTold(t, "of a length", api.ErrCode, func(w *writer) {
			w.head(true, dynamic)
			w.counts(257, 1, 19)
			w.own(own, 19)
			w.put("111111111111111")
		})
	}
	wantTold(t, "of the end", api.ErrCode, func(w *writer) {
		w.head(true, dynamic)
		w.codes(lengths(257, map[int]int{256: 15}), []int{1})
		w.put("000000000000001")
	})
}

func TestSymbolsThatAreNone(t *testing.T) {
	for _, s := range []int{286, 287} {
		for _, ahead := range [][]api.Token{nil, literals('a', 200)} {
			wantTold(t, "a symbol above 285", api.ErrCode, func(w *writer) {
				w.head(true, fixed)
				w.tokens(fixedSymbols, fixedFars, ahead)
				w.code(fixedSymbols, s)
			})
		}
	}
	for _, s := range []int{30, 31} {
		for _, same := range []int{257, 265, 284, 285} {
			wantTold(t, "a symbol of how far above 29", api.ErrCode, func(w *writer) {
				w.head(true, fixed)
				w.code(fixedSymbols, same)
				w.number(0, sameBits[same-257])
				w.code(fixedFars, s)
			})
		}
	}
}

// Told when the rest of how far was read.
func TestTooFar(t *testing.T) {
	for i, far := range []int{1, 4, 5, 300, 3000, 3001, 32768} {
		for _, same := range []int{3, 10, 11, 257, 258} {
			wantTold(t, "too far, Fixed", api.ErrFar, func(w *writer) {
				w.upTo(min(far-1, 2*i))
				w.head(true, fixed)
				w.tokens(fixedSymbols, fixedFars, []api.Token{{Same: same, Far: far}})
			})
		}
		wantTold(t, "too far, Dynamic", api.ErrFar, func(w *writer) {
			w.upTo(min(far-1, 2*i))
			w.head(true, dynamic)
			symbols, fars := lengths(258, map[int]int{256: 1, 257: 1}), slices.Repeat([]int{5}, 30)
			w.codes(symbols, fars)
			w.tokens(symbols, fars, []api.Token{{Same: 3, Far: far}})
		})
	}
	// As far as can be told: beyond what may be said at all.
	w := &writer{}
	w.upTo(api.MaxBytes)
	w.head(true, fixed)
	w.tokens(fixedSymbols, fixedFars, []api.Token{{Same: 3, Far: 32768}})
	wantError(t, "too far of as many bytes as may be", w.row(), api.ErrFar)
}

// One byte more than may be said: told when a Stored block's numbers, a byte, or how many and how far were read.
func TestTooManyBytes(t *testing.T) {
	for _, many := range []int{1, 3, 258, 2000, 2900} {
		wantTold(t, "Stored", api.ErrMany, func(w *writer) {
			w.upTo(api.MaxBytes + 1 - many)
			w.head(true, stored)
			w.size(many, ^many)
		})
	}
	for _, many := range []int{api.MaxBytes + 1, 6000, 65535} {
		wantTold(t, "Stored", api.ErrMany, func(w *writer) {
			w.head(false, stored)
			w.size(many, ^many)
		})
	}
	wantTold(t, "a byte", api.ErrMany, func(w *writer) {
		w.upTo(api.MaxBytes)
		w.head(true, fixed)
		w.code(fixedSymbols, 200)
	})
	for _, same := range []int{3, 10, 11, 257, 258} {
		for _, far := range []int{1, 4, 5, 1500} {
			wantTold(t, "bytes that stood ahead, Fixed", api.ErrMany, func(w *writer) {
				w.upTo(api.MaxBytes + 1 - same)
				w.head(true, fixed)
				w.tokens(fixedSymbols, fixedFars, []api.Token{{Same: same, Far: far}})
			})
		}
		wantTold(t, "bytes that stood ahead, Dynamic", api.ErrMany, func(w *writer) {
			w.upTo(api.MaxBytes + 1 - same)
			w.head(true, dynamic)
			w.codes(fixedSymbols[:286], fixedFars[:30])
			w.tokens(fixedSymbols[:286], fixedFars[:30], []api.Token{{Same: same, Far: 6}})
		})
	}
}

// Bytes in full, one more than may be said.
func TestOneByteMore(t *testing.T) {
	for kind := range 3 {
		w := &writer{}
		w.as(kind, true, literals(noise(api.MaxBytes+1, 128, 6)...)...)
		wantError(t, "one byte more", w.row(), api.ErrMany)
		w = &writer{}
		w.upTo(api.MaxBytes)
		w.as(kind, false)
		w.as(kind, false, literals(1)...)
		w.as(kind, true)
		wantError(t, "one byte more, in a block of its own", w.row(), api.ErrMany)
	}
}

// Of one token too far is told ahead of too many.
func TestTooFarAheadOfTooMany(t *testing.T) {
	for _, same := range []int{3, 258} {
		wantTold(t, "too far, and too many", api.ErrFar, func(w *writer) {
			w.upTo(api.MaxBytes + 1 - same)
			w.head(true, fixed)
			w.tokens(fixedSymbols, fixedFars, []api.Token{{Same: same, Far: len(w.said) + 1}})
		})
		wantTold(t, "no symbol of how far, and too many", api.ErrCode, func(w *writer) {
			w.upTo(api.MaxBytes + 1 - same)
			w.head(true, fixed)
			w.code(fixedSymbols, map[int]int{3: 257, 258: 285}[same])
			w.code(fixedFars, 30)
		})
	}
}
