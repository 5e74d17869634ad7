package inflate_test

import (
	"slices"
	"strings"

	"reliquary/api"
)

// The tables of RFC 1951, 3.2.5 and 3.2.7, as they stand there.
var (
	sameBase  = []int{3, 4, 5, 6, 7, 8, 9, 10, 11, 13, 15, 17, 19, 23, 27, 31, 35, 43, 51, 59, 67, 83, 99, 115, 131, 163, 195, 227, 258}
	sameBits  = []int{0, 0, 0, 0, 0, 0, 0, 0, 1, 1, 1, 1, 2, 2, 2, 2, 3, 3, 3, 3, 4, 4, 4, 4, 5, 5, 5, 5, 0}
	farBase   = []int{1, 2, 3, 4, 5, 7, 9, 13, 17, 25, 33, 49, 65, 97, 129, 193, 257, 385, 513, 769, 1025, 1537, 2049, 3073, 4097, 6145, 8193, 12289, 16385, 24577}
	farBits   = []int{0, 0, 0, 0, 1, 1, 2, 2, 3, 3, 4, 4, 5, 5, 6, 6, 7, 7, 8, 8, 9, 9, 10, 10, 11, 11, 12, 12, 13, 13}
	ownPlaces = []int{16, 17, 18, 0, 8, 7, 9, 6, 10, 5, 11, 4, 12, 3, 13, 2, 14, 1, 15}
)

var (
	fixedSymbols = slices.Concat(slices.Repeat([]int{8}, 144), slices.Repeat([]int{9}, 112),
		slices.Repeat([]int{7}, 24), slices.Repeat([]int{8}, 8))
	fixedFars = slices.Repeat([]int{5}, 32)
)

// writer of a row, bit by bit, right or wrong; it keeps what the row says, as far as it is right.
type writer struct {
	bits  []byte // '0' or '1' each, in the order in which they stand
	said  []byte
	kinds []int
}

// row: the bits in bytes, with zeros behind them.
func (w *writer) row() []byte { return rowOf(string(w.bits)) }

func rowOf(s string) []byte {
	b := make([]byte, (len(s)+7)/8)
	for i := range len(s) {
		b[i/8] |= (s[i] - '0') << (i % 8)
	}
	return b
}

// put lays bits; spaces stand between them for the eye.
func (w *writer) put(s string) { w.bits = append(w.bits, strings.ReplaceAll(s, " ", "")...) }

// number of so many bits, lowest bit first.
func (w *writer) number(n, size int) {
	for i := range size {
		w.bits = append(w.bits, '0'+byte(n>>i&1))
	}
}

// code of a place, highest bit first.
func (w *writer) code(lengths []int, place int) { w.put(wordsOf(lengths)[place]) }

// known: codes that were worked out once; most tests ask for the same few.
var known = map[string][]string{}

// wordsOf: the codes as texts, highest bit first; "" of places without.
func wordsOf(lengths []int) []string {
	key := make([]byte, len(lengths))
	for p, n := range lengths {
		key[p] = byte(n)
	}
	if words, ok := known[string(key)]; ok {
		return words
	}
	words := make([]string, len(lengths))
	next := 0
	for size := 1; size <= 15; size++ {
		next <<= 1
		for p, n := range lengths {
			if n != size {
				continue
			}
			for i := range size {
				words[p] += string('0' + byte(next>>(size-1-i)&1))
			}
			next++
		}
	}
	known[string(key)] = words
	return words
}

// head of a block.
func (w *writer) head(last bool, kind int) {
	w.put(map[bool]string{false: "0", true: "1"}[last])
	w.number(kind, 2)
	w.kinds = append(w.kinds, kind)
}

// fill: what is left of the byte.
func (w *writer) fill(bit byte) {
	for len(w.bits)%8 != 0 {
		w.bits = append(w.bits, bit)
	}
}

// size of a Stored block: two numbers.
func (w *writer) size(many, turned int) {
	w.fill('0')
	w.number(many, 16)
	w.number(turned, 16)
}

func (w *writer) stored(last bool, b []byte) {
	w.head(last, api.Stored)
	w.size(len(b), ^len(b))
	for _, c := range b {
		w.number(int(c), 8)
	}
	w.said = append(w.said, b...)
}

func (w *writer) fixed(last bool, tokens ...api.Token) {
	w.head(last, api.Fixed)
	w.tokens(fixedSymbols, fixedFars, tokens)
	w.code(fixedSymbols, 256)
}

// symbolOf: the last symbol from which on n is told, and the rest.
func symbolOf(base []int, n int) (symbol, rest int) {
	for symbol+1 < len(base) && base[symbol+1] <= n {
		symbol++
	}
	return symbol, n - base[symbol]
}

// tokens by codes of these lengths, without an end. What goes back too far says nothing.
func (w *writer) tokens(symbols, fars []int, tokens []api.Token) {
	words, farWords := wordsOf(symbols), wordsOf(fars)
	for _, t := range tokens {
		if t.Same == 0 {
			w.put(words[t.Byte])
			w.said = append(w.said, t.Byte)
			continue
		}
		s, rest := symbolOf(sameBase, t.Same)
		w.put(words[257+s])
		w.number(rest, sameBits[s])
		s, rest = symbolOf(farBase, t.Far)
		w.put(farWords[s])
		w.number(rest, farBits[s])
		for range t.Same {
			if t.Far <= len(w.said) {
				w.said = append(w.said, w.said[len(w.said)-t.Far])
			}
		}
	}
}

// flat: a code of lengths by which each length is told by itself, or again by 16, 17, 18. It leaves room.
var flat = slices.Repeat([]int{5}, 19)

// counts of a Dynamic block: three numbers.
func (w *writer) counts(symbols, fars, own int) {
	w.number(symbols-257, 5)
	w.number(fars-1, 5)
	w.number(own-4, 4)
}

// own: the lengths of the code of lengths, so many of them.
func (w *writer) own(lengths []int, many int) {
	for _, p := range ownPlaces[:many] {
		w.number(lengths[p], 3)
	}
}

// told: symbols of the code of lengths, each with its rest.
func (w *writer) told(own []int, runs ...[2]int) {
	words := wordsOf(own)
	for _, r := range runs {
		w.put(words[r[0]])
		switch r[0] {
		case 16:
			w.number(r[1], 2)
		case 17:
			w.number(r[1], 3)
		case 18:
			w.number(r[1], 7)
		}
	}
}

// plain: lengths each told by itself.
func plain(lengths ...[]int) (runs [][2]int) {
	for _, l := range lengths {
		for _, n := range l {
			runs = append(runs, [2]int{n, 0})
		}
	}
	return runs
}

// zerosOf: so many zeros, told by 18 as far as may be.
func zerosOf(many int) (runs [][2]int) {
	for many >= 11 {
		times := min(many, 138)
		runs, many = append(runs, [2]int{18, times - 11}), many-times
	}
	return append(runs, make([][2]int, many)...)
}

// codes of a Dynamic block, whole.
func (w *writer) codes(symbols, fars []int) {
	w.counts(len(symbols), len(fars), 19)
	w.own(flat, 19)
	w.told(flat, plain(symbols, fars)...)
}

func (w *writer) dynamic(last bool, symbols, fars []int, tokens ...api.Token) {
	w.head(last, api.Dynamic)
	w.codes(symbols, fars)
	w.tokens(symbols, fars, tokens)
	w.code(symbols, 256)
}

// shift: so many blocks that say nothing and end one bit sooner in their byte than the one ahead.
func (w *writer) shift(many int) {
	own := lengths(19, map[int]int{0: 2, 2: 2, 18: 1})
	for range many {
		w.head(false, api.Dynamic)
		w.counts(257, 1, 16)
		w.own(own, 16)
		w.told(own, [2]int{18, 138 - 11}, [2]int{18, 118 - 11}, [2]int{2}, [2]int{0})
		w.put("00")
	}
}

// lengths: so many, 0 but of these places.
func lengths(many int, of map[int]int) []int {
	l := make([]int, many)
	for p, n := range of {
		l[p] = n
	}
	return l
}

// literals: bytes as tokens.
func literals(b ...byte) (l []api.Token) {
	for _, c := range b {
		l = append(l, api.Token{Byte: c})
	}
	return l
}

// upTo: Fixed blocks by which just so many bytes are said, in few bits.
func (w *writer) upTo(many int) {
	for len(w.said) < many {
		switch left := many - len(w.said); {
		case len(w.said) == 0 || left < 3:
			w.fixed(false, literals(byte(len(w.said)))...)
		default:
			w.fixed(false, api.Token{Same: min(left, 258), Far: 1})
		}
	}
}
