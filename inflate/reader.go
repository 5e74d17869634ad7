package inflate

import (
	"reliquary/api"
	"reliquary/code"
	"reliquary/layout"
)

// reader goes through a row of blocks, bit by bit, and keeps what they say.
type reader struct {
	row   []byte
	at    int // which bit comes next
	out   []byte
	kinds []int
	fixed codes // made when the first Fixed block comes
}

// codes of a block: each one reads the next symbol.
type codes struct {
	symbol, far func() int
}

// blocks reads up to the last block.
func (r *reader) blocks() {
	for last := 0; last == 0; {
		last = r.number(1)
		r.block(r.number(2))
	}
}

func (r *reader) block(kind int) {
	switch kind {
	case api.Stored:
		r.stored()
	case api.Fixed:
		r.tokens(r.fixedCodes())
	case api.Dynamic:
		r.tokens(r.ownCodes())
	default:
		giveUp(api.ErrForm)
	}
	r.kinds = append(r.kinds, kind)
}

// stored reads bytes that stand as they are. What is left of the byte ahead is passed over, whatever it is.
func (r *reader) stored() {
	r.at = (r.at + 7) / 8 * 8
	many, turned := r.number(16), r.number(16)
	if many^turned != 0xFFFF {
		giveUp(api.ErrForm)
	}
	r.room(many)
	for range many {
		r.out = append(r.out, byte(r.number(8)))
	}
}

// tokens reads tokens up to the end of the block.
func (r *reader) tokens(c codes) {
	for s := c.symbol(); s != layout.End; s = c.symbol() {
		switch {
		case s < layout.End:
			r.room(1)
			r.out = append(r.out, byte(s))
		case s <= layout.LastSame:
			same := r.withRest(layout.LeastSame(s))
			r.back(same, r.howFar(c))
		default:
			giveUp(api.ErrCode)
		}
	}
}

// howFar reads how far bytes stand ahead.
func (r *reader) howFar(c codes) int {
	s := c.far()
	if s >= layout.ManyFars {
		giveUp(api.ErrCode)
	}
	return r.withRest(layout.LeastFar(s))
}

// withRest reads what comes to the least number, of so many bits.
func (r *reader) withRest(least, size int) int { return least + r.number(size) }

// back says bytes that stood ahead: one by one, as one that is said here may stand ahead of a later one.
func (r *reader) back(same, far int) {
	if far > len(r.out) {
		giveUp(api.ErrFar)
	}
	r.room(same)
	for range same {
		r.out = append(r.out, r.out[len(r.out)-far])
	}
}

// room must be there for so many bytes more. It is asked ahead of the first of them.
func (r *reader) room(many int) {
	if len(r.out)+many > api.MaxBytes {
		giveUp(api.ErrMany)
	}
}

// number reads a number of so many bits.
func (r *reader) number(size int) int {
	n := 0
	for i := range size {
		n |= r.bit() << i
	}
	return n
}

func (r *reader) bit() int {
	if r.at == 8*len(r.row) {
		giveUp(api.ErrTorn)
	}
	b := int(r.row[r.at/8]>>(r.at%8)) & 1
	r.at++
	return b
}

// word is a code: of how many bits, and which.
type word [2]int

// decoder answers what reads the next symbol by a code of these lengths.
func (r *reader) decoder(lengths []int) func() int {
	words, e := code.Codes(lengths)
	if e != api.OK {
		giveUp(e)
	}
	symbols := map[word]int{}
	for s, n := range lengths {
		if n > 0 {
			symbols[word{n, words[s]}] = s
		}
	}
	return func() int {
		w := word{}
		for range api.MaxBits {
			w = word{w[0] + 1, w[1]<<1 | r.bit()}
			if s, ok := symbols[w]; ok {
				return s
			}
		}
		panic(fault{api.ErrCode})
	}
}
