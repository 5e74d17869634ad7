// Package layout: what those who write blocks and those who read them must know alike; see doc/05-block.md.
package layout

// Symbols of a block that aren't bytes.
const (
	End       = 256 // ends a block
	FirstSame = 257 // the symbol of api.MinSame bytes that are the same
	LastSame  = 285 // the symbol of api.MaxSame bytes
)

// ManyFars: there are so many symbols of how far.
const ManyFars = 30

// How many lengths a Dynamic block tells at least.
const (
	LeastSymbols = End + 1
	LeastFars    = 1
	LeastOwn     = 4 // of the code of lengths
)

// ManyOwn: the code of lengths has so many symbols.
const ManyOwn = 19

// Symbols of the code of lengths that aren't lengths themselves.
const (
	Again     = 16 // the length ahead, 3 to 6 times
	Zeros     = 17 // 0, 3 to 10 times
	ManyZeros = 18 // 0, 11 to 138 times
)

// Order in which the lengths of the code of lengths are told: those that are wanted least often come last.
func Order() [ManyOwn]int {
	return [ManyOwn]int{16, 17, 18, 0, 8, 7, 9, 6, 10, 5, 11, 4, 12, 3, 13, 2, 14, 1, 15}
}

// FixedLengths answers the lengths of the fixed codes. Symbols that no token has are among them: they take codes, and
// so move those of others.
func FixedLengths() (symbols [288]int, fars [32]int) {
	for s := range symbols {
		switch {
		case s < 144:
			symbols[s] = 8
		case s < 256:
			symbols[s] = 9
		case s < 280:
			symbols[s] = 7
		default:
			symbols[s] = 8
		}
	}
	for s := range fars {
		fars[s] = 5
	}
	return symbols, fars
}
