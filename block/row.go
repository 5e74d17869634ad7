package block

import (
	"reliquary/bits"
	"reliquary/code"
)

// row of bits that grows. (A row of blocks may have more numbers than package bits packs at once.)
type row struct {
	bytes []byte
	free  int // how many bits of the last byte nothing was put into
}

// put lays a number of so many bits behind the row.
func (r *row) put(n, size int) {
	for i := range size {
		if r.free == 0 {
			r.bytes = append(r.bytes, 0)
			r.free = 8
		}
		r.bytes[len(r.bytes)-1] |= byte(n>>i&1) << (8 - r.free)
		r.free--
	}
}

// fill leaves what is left of the last byte 0.
func (r *row) fill() { r.free = 0 }

// coder answers what puts the code of a symbol behind a row. The lengths must make a code.
func coder(r *row, lengths []int) func(symbol int) {
	codes, _ := code.Codes(lengths)
	return func(symbol int) {
		// A number stands lowest bit first, a code highest first.
		turned, _ := bits.Turn(codes[symbol], lengths[symbol])
		r.put(turned, lengths[symbol])
	}
}
