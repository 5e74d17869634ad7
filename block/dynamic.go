package block

import (
	"slices"

	"reliquary/api"
	"reliquary/weigh"
)

const (
	leastSymbols = end + 1 // lengths of symbols that are told at least
	leastFars    = 1       // lengths of how far
	leastOwn     = 4       // lengths of the code of lengths
	ownBits      = 7       // the greatest length of that code: it is told in 3 bits
)

// Symbols of the code of lengths that aren't lengths themselves.
const (
	again     = 16 // the length ahead, 3 to 6 times
	zeros     = 17 // 0, 3 to 10 times
	manyZeros = 18 // 0, 11 to 138 times
)

// order in which the lengths of the code of lengths are told: those that are wanted least often come last.
var order = [19]int{16, 17, 18, 0, 8, 7, 9, 6, 10, 5, 11, 4, 12, 3, 13, 2, 14, 1, 15}

// putDynamic lays tokens by codes that are the shortest for them, and these codes ahead.
func putDynamic(r *row, tokens []api.Token) {
	symbolCounts, farCounts := count(tokens)
	symbols := lengthsOf(symbolCounts[:], api.MaxBits, leastSymbols)
	fars := lengthsOf(farCounts[:], api.MaxBits, leastFars)
	putLengths(r, symbols, fars)
	pass(tokens, putter(r, symbols, fars))
}

// count tells how often each symbol is wanted.
func count(tokens []api.Token) (symbols [lastSame + 1]int, fars [manyFars]int) {
	pass(tokens, sink{
		symbol: func(symbol int) { symbols[symbol]++ },
		far:    func(symbol int) { fars[symbol]++ },
		rest:   func(n, size int) {},
	})
	return symbols, fars
}

// lengthsOf answers the lengths of the shortest code, without the zeros behind the last one, but no fewer than least.
// No count is refused: there are fewer than 2^most, of no more than api.MaxBytes tokens.
func lengthsOf(counts []int, most, least int) []int {
	lengths, _ := weigh.Lengths(counts, most)
	many := len(lengths)
	for many > least && lengths[many-1] == 0 {
		many--
	}
	return lengths[:many]
}

// putLengths tells the lengths of both codes, by a code of lengths that is told ahead.
func putLengths(r *row, symbols, fars []int) {
	all := slices.Concat(symbols, fars)
	var counts [len(order)]int
	passLengths(all, func(symbol, rest, size int) { counts[symbol]++ })
	own := lengthsOf(counts[:], ownBits, len(order))
	many := len(order)
	for many > leastOwn && own[order[many-1]] == 0 {
		many--
	}
	r.put(len(symbols)-leastSymbols, 5)
	r.put(len(fars)-leastFars, 5)
	r.put(many-leastOwn, 4)
	for i := range many {
		r.put(own[order[i]], 3)
	}
	putSymbol := coder(r, own)
	passLengths(all, func(symbol, rest, size int) {
		putSymbol(symbol)
		r.put(rest, size)
	})
}

// passLengths tells of the symbols, with their rests, by which the lengths are told.
func passLengths(lengths []int, to func(symbol, rest, size int)) {
	for len(lengths) > 0 {
		many := 1
		for many < len(lengths) && lengths[many] == lengths[0] {
			many++
		}
		passRun(lengths[0], many, to)
		lengths = lengths[many:]
	}
}

// passRun tells of one length that stands so often one behind the other.
func passRun(length, many int, to func(symbol, rest, size int)) {
	if length > 0 {
		// What is told again must be there once.
		to(length, 0, 0)
		many--
	}
	for many > 0 {
		times := 1
		switch {
		case many < 3:
			to(length, 0, 0)
		case length > 0:
			times = min(many, 6)
			to(again, times-3, 2)
		case many < 11:
			times = many
			to(zeros, times-3, 3)
		default:
			times = min(many, 138)
			to(manyZeros, times-11, 7)
		}
		many -= times
	}
}
