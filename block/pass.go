package block

import (
	"reliquary/api"
	"reliquary/layout"
)

// sink takes what the tokens of a block are told by, one behind the other: so the same way through them serves to
// count symbols and to put their codes.
type sink struct {
	symbol func(symbol int)
	far    func(symbol int)
	rest   func(n, size int)
}

// putter answers a sink that puts all behind a row, by codes of these lengths.
func putter(r *row, symbols, fars []int) sink {
	return sink{symbol: coder(r, symbols), far: coder(r, fars), rest: r.put}
}

// pass tells a sink of tokens, and of the end.
func pass(tokens []api.Token, to sink) {
	for _, t := range tokens {
		if t.Same == 0 {
			to.symbol(int(t.Byte))
			continue
		}
		symbol, rest, size := layout.Same(t.Same)
		to.symbol(symbol)
		to.rest(rest, size)
		symbol, rest, size = layout.Far(t.Far)
		to.far(symbol)
		to.rest(rest, size)
	}
	to.symbol(layout.End)
}
