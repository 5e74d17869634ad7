package block

import "reliquary/api"

const (
	end       = 256 // the symbol that ends a block
	firstSame = 257 // the symbol of api.MinSame bytes
	lastSame  = 285 // the symbol of api.MaxSame bytes
	manyFars  = 30  // symbols of how far
)

// sink takes what the tokens of a block are told by, one behind the other: so the same way through them serves to
// count symbols and to put their codes.
type sink struct {
	symbol func(symbol int)
	far    func(symbol int)
	rest   func(n, size int)
}

// putter answers a sink that puts all behind a row, by codes of these lengths.
func putter(r *row, symbols, fars []int) sink {
	return sink{symbol: coder(r, symbols), far: coder(r, fars), rest: r.put}
}

// pass tells a sink of tokens, and of the end.
func pass(tokens []api.Token, to sink) {
	for _, t := range tokens {
		if t.Same == 0 {
			to.symbol(int(t.Byte))
			continue
		}
		symbol, rest, size := howMany(t.Same)
		to.symbol(symbol)
		to.rest(rest, size)
		symbol, rest, size = howFar(t.Far)
		to.far(symbol)
		to.rest(rest, size)
	}
	to.symbol(end)
}

// howMany answers the symbol that tells how many bytes are the same, and the rest.
func howMany(same int) (symbol, rest, size int) {
	if same == api.MaxSame {
		return lastSame, 0, 0
	}
	step, rest, size := stepOf(same-api.MinSame, 4)
	return firstSame + step, rest, size
}

// howFar answers the symbol that tells how far the bytes stand ahead, and the rest.
func howFar(far int) (symbol, rest, size int) { return stepOf(far-1, 2) }

// stepOf tells on which step n (from 0 on) stands, how far behind the step's first number, and in how many bits that
// is told. There are two groups of steps with one number each, then each group's steps are twice as wide as those
// ahead: so a step's group shows in how often n halves till it is one of the second group.
func stepOf(n, group int) (step, rest, size int) {
	for n>>size >= 2*group {
		size++
	}
	return group*size + n>>size, n & (1<<size - 1), size
}
