package block_test

import (
	"slices"
	"testing"

	"reliquary/api"
)

// The tables of RFC 1951, 3.2.5 and 3.2.7, as they stand there.
var (
	sameBase  = []int{3, 4, 5, 6, 7, 8, 9, 10, 11, 13, 15, 17, 19, 23, 27, 31, 35, 43, 51, 59, 67, 83, 99, 115, 131, 163, 195, 227, 258}
	sameBits  = []int{0, 0, 0, 0, 0, 0, 0, 0, 1, 1, 1, 1, 2, 2, 2, 2, 3, 3, 3, 3, 4, 4, 4, 4, 5, 5, 5, 5, 0}
	farBase   = []int{1, 2, 3, 4, 5, 7, 9, 13, 17, 25, 33, 49, 65, 97, 129, 193, 257, 385, 513, 769, 1025, 1537, 2049, 3073, 4097, 6145, 8193, 12289, 16385, 24577}
	farBits   = []int{0, 0, 0, 0, 1, 1, 2, 2, 3, 3, 4, 4, 5, 5, 6, 6, 7, 7, 8, 8, 9, 9, 10, 10, 11, 11, 12, 12, 13, 13}
	ownPlaces = []int{16, 17, 18, 0, 8, 7, 9, 6, 10, 5, 11, 4, 12, 3, 13, 2, 14, 1, 15}
)

// block as it is read.
type block struct {
	last    bool
	kind    int
	size    int // in bits, with those that are left of a byte
	bytes   []byte
	tokens  []api.Token
	symbols []int    // lengths
	fars    []int    // lengths
	own     []int    // lengths of the code of lengths
	told    [][2]int // by which symbols of that code the lengths are told, and how often each says its length
}

// reader of a row, that fails its test wherever the row isn't as the chapter says.
type reader struct {
	t    *testing.T
	row  []byte
	at   int
	past []byte // what the blocks said so far
}

// readAll: the blocks of a row up to the last one, behind which nothing may come.
func readAll(t *testing.T, row []byte) []block {
	t.Helper()
	r := &reader{t: t, row: row}
	var l []block
	for len(l) == 0 || !l[len(l)-1].last {
		l = append(l, r.block())
	}
	r.zeros()
	if r.at != 8*len(row) {
		t.Fatalf("%d bytes behind the last block", len(row)-r.at/8)
	}
	return l
}

// number of so many bits, lowest bit first.
func (r *reader) number(size int) int {
	n := 0
	for i := range size {
		if r.at == 8*len(r.row) {
			r.t.Fatal("the row ends too soon")
		}
		n |= int(r.row[r.at/8]>>(r.at%8)&1) << i
		r.at++
	}
	return n
}

// zeros: what is left of a byte.
func (r *reader) zeros() {
	if n := r.number((8 - r.at%8) % 8); n != 0 {
		r.t.Fatalf("what is left of a byte is %b", n)
	}
}

// symbol, told by its code, highest bit first.
func (r *reader) symbol(codes map[[2]int]int) int {
	c := [2]int{}
	for range 15 {
		c = [2]int{c[0] + 1, c[1]<<1 | r.number(1)}
		if s, ok := codes[c]; ok {
			return s
		}
	}
	r.t.Fatal("bits that are no code")
	return 0
}

func (r *reader) block() block {
	from, ahead := r.at, len(r.past)
	b := block{last: r.number(1) == 1, kind: r.number(2)}
	switch b.kind {
	case 0:
		r.stored()
	case 1:
		b.symbols, b.fars = slices.Concat(slices.Repeat([]int{8}, 144), slices.Repeat([]int{9}, 112),
			slices.Repeat([]int{7}, 24), slices.Repeat([]int{8}, 8)), slices.Repeat([]int{5}, 32)
		b.tokens = r.tokens(b)
	case 2:
		r.lengths(&b)
		b.tokens = r.tokens(b)
	default:
		r.t.Fatal("a kind that is none")
	}
	b.bytes, b.size = r.past[ahead:], r.at-from
	return b
}

func (r *reader) stored() {
	r.zeros()
	many, turned := r.number(16), r.number(16)
	if many+turned != 0xFFFF {
		r.t.Fatalf("%d bytes, turned %d", many, turned)
	}
	for range many {
		r.past = append(r.past, byte(r.number(8)))
	}
}

func (r *reader) tokens(b block) []api.Token {
	symbols, fars := codesOf(b.symbols), codesOf(b.fars)
	var l []api.Token
	for {
		s := r.symbol(symbols)
		switch {
		case s < 256:
			l = append(l, api.Token{Byte: byte(s)})
			r.past = append(r.past, byte(s))
		case s == 256:
			return l
		case s > 285:
			r.t.Fatalf("the symbol %d", s)
		default:
			same := sameBase[s-257] + r.number(sameBits[s-257])
			if s == 284 && same == 258 {
				r.t.Fatal("258 bytes are told by 284")
			}
			s = r.symbol(fars)
			if s > 29 {
				r.t.Fatalf("the symbol %d of how far", s)
			}
			l = append(l, api.Token{Same: same, Far: farBase[s] + r.number(farBits[s])})
			r.back(same, l[len(l)-1].Far)
		}
	}
}

// back: bytes that stood ahead.
func (r *reader) back(same, far int) {
	if far > len(r.past) {
		r.t.Fatalf("%d back, of %d bytes", far, len(r.past))
	}
	for range same {
		r.past = append(r.past, r.past[len(r.past)-far])
	}
}

// lengths of a Dynamic block.
func (r *reader) lengths(b *block) {
	symbols, fars, many := 257+r.number(5), 1+r.number(5), 4+r.number(4)
	if symbols > 286 || fars > 30 {
		r.t.Fatalf("%d lengths of symbols, %d of how far", symbols, fars)
	}
	b.own = make([]int, 19)
	for _, p := range ownPlaces[:many] {
		b.own[p] = r.number(3)
	}
	codes := codesOf(b.own)
	var all []int
	for len(all) < symbols+fars {
		s := r.symbol(codes)
		length, times := s, 1
		switch {
		case s == 16 && len(all) == 0:
			r.t.Fatal("nothing ahead of a 16")
		case s == 16:
			length, times = all[len(all)-1], 3+r.number(2)
		case s == 17:
			length, times = 0, 3+r.number(3)
		case s == 18:
			length, times = 0, 11+r.number(7)
		}
		b.told = append(b.told, [2]int{s, times})
		all = append(all, slices.Repeat([]int{length}, times)...)
	}
	if len(all) > symbols+fars {
		r.t.Fatalf("%d lengths instead of %d", len(all), symbols+fars)
	}
	b.symbols, b.fars = all[:symbols], all[symbols:]
	if b.symbols[256] == 0 {
		r.t.Fatal("256 has no length")
	}
	wantFull(r.t, b.own, b.symbols)
	if slices.Max(b.fars) > 0 {
		wantFull(r.t, b.fars)
	}
}

// wantFull: codes that leave no room, or have one place alone, of one bit.
func wantFull(t *testing.T, lengths ...[]int) {
	t.Helper()
	for _, l := range lengths {
		sum, many := 0, 0
		for _, n := range l {
			if n > 0 {
				sum, many = sum+1<<15>>n, many+1
			}
		}
		if sum != 1<<15 && (many != 1 || sum != 1<<14) {
			t.Fatalf("lengths that make no full code: %v", l)
		}
	}
}

// codesOf: the symbols by how long their code is, and the code.
func codesOf(l []int) map[[2]int]int {
	codes := map[[2]int]int{}
	next := 0
	for length := 1; length <= 15; length++ {
		next <<= 1
		for s, n := range l {
			if n == length {
				codes[[2]int{length, next}] = s
				next++
			}
		}
	}
	return codes
}
