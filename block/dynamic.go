package block

import (
	"slices"

	"reliquary/api"
	"reliquary/layout"
	"reliquary/weigh"
)

// ownBits: the greatest length of the code of lengths, as it is told in 3 bits.
const ownBits = 7

// plan of a Dynamic block: its tokens, and the lengths of the codes by which they are told.
type plan struct {
	tokens        []api.Token
	symbols, fars []int
}

// putDynamic lays a part by codes that are told ahead of it: the shortest ones for its tokens, or even ones, where to
// tell the shortest takes more bits than they spare. So no block takes more than 188 bits beside 9 of each byte, and no
// row of blocks more than api.MaxPacked bytes: whatever is packed can be unpacked.
func putDynamic(r *row, part []byte, tokens []api.Token) {
	best := shortest(tokens)
	if p := even(part); p.bits() < best.bits() {
		best = p
	}
	best.put(r)
}

// shortest answers the plan by codes that are the shortest for these tokens.
func shortest(tokens []api.Token) plan {
	symbols, fars := count(tokens)
	return plan{tokens, lengthsOf(symbols[:], api.MaxBits, layout.LeastSymbols), lengthsOf(fars[:], api.MaxBits, layout.LeastFars)}
}

// even answers the plan by a code in which all bytes have 8 bits, but one that makes room for the end. Its lengths are
// told in few bits.
func even(part []byte) plan {
	p := plan{symbols: make([]int, layout.LeastSymbols), fars: make([]int, layout.LeastFars)}
	for _, b := range part {
		p.tokens = append(p.tokens, api.Token{Byte: b})
	}
	for s := range p.symbols {
		p.symbols[s] = 8
	}
	p.symbols[layout.End-1], p.symbols[layout.End] = 9, 9
	return p
}

// put lays the codes and the tokens behind a row.
func (p plan) put(r *row) {
	putLengths(r, p.symbols, p.fars)
	pass(p.tokens, putter(r, p.symbols, p.fars))
}

// bits tells how many bits that takes.
func (p plan) bits() int {
	r := &row{}
	p.put(r)
	return 8*len(r.bytes) - r.free
}

// count tells how often each symbol is wanted.
func count(tokens []api.Token) (symbols [layout.LastSame + 1]int, fars [layout.ManyFars]int) {
	pass(tokens, sink{
		symbol: func(symbol int) { symbols[symbol]++ },
		far:    func(symbol int) { fars[symbol]++ },
		rest:   func(n, size int) {},
	})
	return symbols, fars
}

// lengthsOf answers the lengths of the shortest code, without the zeros behind the last one, but no fewer than least.
// No count is refused: there are fewer than 2^most, of no more than api.MaxBytes tokens.
func lengthsOf(counts []int, most, least int) []int {
	lengths, _ := weigh.Lengths(counts, most)
	many := len(lengths)
	for many > least && lengths[many-1] == 0 {
		many--
	}
	return lengths[:many]
}

// putLengths tells the lengths of both codes, by a code of lengths that is told ahead.
func putLengths(r *row, symbols, fars []int) {
	all := slices.Concat(symbols, fars)
	order := layout.Order()
	var counts [layout.ManyOwn]int
	passLengths(all, func(symbol, rest, size int) { counts[symbol]++ })
	own := lengthsOf(counts[:], ownBits, len(order))
	many := len(order)
	for many > layout.LeastOwn && own[order[many-1]] == 0 {
		many--
	}
	r.put(len(symbols)-layout.LeastSymbols, 5)
	r.put(len(fars)-layout.LeastFars, 5)
	r.put(many-layout.LeastOwn, 4)
	for i := range many {
		r.put(own[order[i]], 3)
	}
	putSymbol := coder(r, own)
	passLengths(all, func(symbol, rest, size int) {
		putSymbol(symbol)
		r.put(rest, size)
	})
}

// passLengths tells of the symbols, with their rests, by which the lengths are told.
func passLengths(lengths []int, to func(symbol, rest, size int)) {
	for len(lengths) > 0 {
		many := 1
		for many < len(lengths) && lengths[many] == lengths[0] {
			many++
		}
		passRun(lengths[0], many, to)
		lengths = lengths[many:]
	}
}

// passRun tells of one length that stands so often one behind the other.
func passRun(length, many int, to func(symbol, rest, size int)) {
	if length > 0 {
		// What is told again must be there once.
		to(length, 0, 0)
		many--
	}
	for many > 0 {
		times := 1
		switch {
		case many < 3:
			to(length, 0, 0)
		case length > 0:
			times = min(many, 6)
			to(layout.Again, times-3, 2)
		case many < 11:
			times = many
			to(layout.Zeros, times-3, 3)
		default:
			times = min(many, 138)
			to(layout.ManyZeros, times-11, 7)
		}
		many -= times
	}
}
