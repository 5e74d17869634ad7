package inflate_test

import (
	"strings"

	"reliquary/api"
)

// written: the bits of a row as text, in the order in which they stand.
func written(row []byte) string {
	var s strings.Builder
	for _, b := range row {
		for i := range 8 {
			s.WriteByte('0' + b>>i&1)
		}
	}
	return s.String()
}

// model reads a row as the chapter tells it, word by word.
type model struct {
	bits  string
	at    int
	out   []byte
	kinds []int
}

func modelOf(b []byte) (out []byte, used int, kinds []int, e api.Errno) {
	if len(b) > api.MaxPacked {
		return nil, 0, nil, api.ErrMany
	}
	m := &model{bits: written(b)}
	for last := 0; last == 0; {
		if last, e = m.block(); e != api.OK {
			return nil, 0, nil, e
		}
	}
	used = m.at / 8
	if m.at%8 > 0 {
		used++
	}
	return m.out, used, m.kinds, api.OK
}

func (m *model) number(size int) (n int, e api.Errno) {
	if m.at+size > len(m.bits) {
		return 0, api.ErrTorn
	}
	for i := size - 1; i >= 0; i-- {
		n = 2*n + int(m.bits[m.at+i]-'0')
	}
	m.at += size
	return n, api.OK
}

// symbol by words: the place of the word that begins what is left.
func (m *model) symbol(words map[string]int) (int, api.Errno) {
	for size := 1; size <= 15; size++ {
		if m.at+size > len(m.bits) {
			return 0, api.ErrTorn
		}
		if s, ok := words[m.bits[m.at:m.at+size]]; ok {
			m.at += size
			return s, api.OK
		}
	}
	return 0, api.ErrCode
}

// places: whose each word is; ErrCode: lengths that make no code.
func places(lengths []int) (map[string]int, api.Errno) {
	sum := 0
	for _, n := range lengths {
		if n > 0 {
			sum += 1 << 15 >> n
		}
	}
	if sum > 1<<15 {
		return nil, api.ErrCode
	}
	words := map[string]int{}
	for p, w := range wordsOf(lengths) {
		if w != "" {
			words[w] = p
		}
	}
	return words, api.OK
}

func (m *model) block() (last int, e api.Errno) {
	if last, e = m.number(1); e != api.OK {
		return 0, e
	}
	kind, e := m.number(2)
	if e != api.OK {
		return 0, e
	}
	m.kinds = append(m.kinds, kind)
	symbols, fars := fixedSymbols, fixedFars
	switch kind {
	case 0:
		return last, m.stored()
	case 2:
		if symbols, fars, e = m.lengths(); e != api.OK {
			return 0, e
		}
	case 3:
		return 0, api.ErrForm
	}
	words, e := places(symbols)
	if e != api.OK {
		return 0, e
	}
	farWords, e := places(fars)
	if e != api.OK {
		return 0, e
	}
	for s := 0; s != 256; {
		if s, e = m.token(words, farWords); e != api.OK {
			return 0, e
		}
	}
	return last, api.OK
}

func (m *model) stored() api.Errno {
	for m.at%8 != 0 {
		m.at++
	}
	many, e := m.number(16)
	if e != api.OK {
		return e
	}
	turned, e := m.number(16)
	if e != api.OK {
		return e
	}
	if many+turned != 65535 || many&turned != 0 {
		return api.ErrForm
	}
	if many > api.MaxBytes-len(m.out) {
		return api.ErrMany
	}
	for range many {
		c, e := m.number(8)
		if e != api.OK {
			return e
		}
		m.out = append(m.out, byte(c))
	}
	return api.OK
}

// lengths of a Dynamic block.
func (m *model) lengths() (symbols, fars []int, e api.Errno) {
	var counts [3]int
	for i, size := range []int{5, 5, 4} {
		if counts[i], e = m.number(size); e != api.OK {
			return nil, nil, e
		}
	}
	many, all := counts[0]+257, counts[0]+257+counts[1]+1
	if many > 286 || all-many > 30 {
		return nil, nil, api.ErrCode
	}
	own := make([]int, 19)
	for _, p := range ownPlaces[:counts[2]+4] {
		if own[p], e = m.number(3); e != api.OK {
			return nil, nil, e
		}
	}
	words, e := places(own)
	if e != api.OK {
		return nil, nil, e
	}
	var l []int
	for len(l) < all {
		if l, e = m.length(words, l); e != api.OK {
			return nil, nil, e
		}
	}
	if len(l) > all || l[256] == 0 {
		return nil, nil, api.ErrCode
	}
	return l[:many], l[many:], api.OK
}

// length: what the next symbol of the code of lengths lays behind l.
func (m *model) length(words map[string]int, l []int) ([]int, api.Errno) {
	s, e := m.symbol(words)
	if e != api.OK {
		return nil, e
	}
	if s < 16 {
		return append(l, s), api.OK
	}
	if s == 16 && len(l) == 0 {
		return nil, api.ErrCode
	}
	times, e := m.number([]int{2, 3, 7}[s-16])
	if e != api.OK {
		return nil, e
	}
	n := 0
	if s == 16 {
		n = l[len(l)-1]
	}
	for range times + []int{3, 3, 11}[s-16] {
		l = append(l, n)
	}
	return l, api.OK
}

// token or end; what is wrong with it.
func (m *model) token(words, farWords map[string]int) (symbol int, e api.Errno) {
	symbol, e = m.symbol(words)
	if e != api.OK || symbol == 256 {
		return symbol, e
	}
	if symbol > 285 {
		return 0, api.ErrCode
	}
	if symbol < 256 {
		if len(m.out) == api.MaxBytes {
			return 0, api.ErrMany
		}
		m.out = append(m.out, byte(symbol))
		return symbol, api.OK
	}
	rest, e := m.number(sameBits[symbol-257])
	if e != api.OK {
		return 0, e
	}
	far, e := m.symbol(farWords)
	if e != api.OK {
		return 0, e
	}
	if far > 29 {
		return 0, api.ErrCode
	}
	farRest, e := m.number(farBits[far])
	if e != api.OK {
		return 0, e
	}
	return symbol, m.back(sameBase[symbol-257]+rest, farBase[far]+farRest)
}

func (m *model) back(same, far int) api.Errno {
	if far > len(m.out) {
		return api.ErrFar
	}
	for range same {
		if len(m.out) == api.MaxBytes {
			return api.ErrMany
		}
		m.out = append(m.out, m.out[len(m.out)-far])
	}
	return api.OK
}
