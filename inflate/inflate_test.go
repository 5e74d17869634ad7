package inflate_test

import (
	"bytes"
	"compress/flate"
	"slices"
	"strings"
	"testing"

	"reliquary/api"
	"reliquary/inflate"
)

const (
	stored  = api.Stored
	fixed   = api.Fixed
	dynamic = api.Dynamic
)

// noise: bytes of so many kinds.
func noise(many, kinds int, seed uint32) []byte {
	b := make([]byte, many)
	x := seed
	for i := range b {
		x = x*1664525 + 1013904223
		b[i] = byte(int(x>>8) % kinds)
	}
	return b
}

// wantAnswer: Unpack must answer just that.
func wantAnswer(t *testing.T, what string, row, out []byte, used int, kinds []int, e api.Errno) {
	t.Helper()
	gotOut, gotUsed, gotKinds, gotE := inflate.Unpack(row)
	if gotE != e || gotUsed != used || !bytes.Equal(gotOut, out) || !slices.Equal(gotKinds, kinds) {
		t.Errorf("%s: Unpack of %d bytes: %d bytes said, %d read, %d kinds, error %v, want %d, %d, %d, %v",
			what, len(row), len(gotOut), gotUsed, len(gotKinds), gotE, len(out), used, len(kinds), e)
	}
	if gotE != api.OK && (gotOut != nil || gotKinds != nil) {
		t.Errorf("%s: a list beside the error %v", what, gotE)
	}
}

// wantError: Unpack must give up, with nothing beside the error.
func wantError(t *testing.T, what string, row []byte, e api.Errno) {
	t.Helper()
	wantAnswer(t, what, row, nil, 0, nil, e)
}

// wantSaid: Unpack must answer what was written, whatever stands behind it: in its last byte, or in bytes of their own.
func wantSaid(t *testing.T, what string, w *writer) {
	t.Helper()
	used := (len(w.bits) + 7) / 8
	zeros, ones := &writer{bits: slices.Clone(w.bits)}, &writer{bits: slices.Clone(w.bits)}
	zeros.fill('0')
	ones.fill('1')
	wantAnswer(t, what, zeros.row(), w.said, used, w.kinds, api.OK)
	wantAnswer(t, what+", ones behind it", ones.row(), w.said, used, w.kinds, api.OK)
	wantAnswer(t, what+", a byte behind it", append(zeros.row(), 7), w.said, used, w.kinds, api.OK)
	wantAnswer(t, what+", bytes behind it", append(ones.row(), 1, 2, 0, 0, 255, 6), w.said, used, w.kinds, api.OK)
	wantError(t, what+", without its last byte", zeros.row()[:used-1], api.ErrTorn)
}

// as: the tokens as one block of that kind, whose codes have all symbols.
func (w *writer) as(kind int, last bool, tokens ...api.Token) {
	switch kind {
	case stored:
		m := &writer{said: w.said}
		m.tokens(fixedSymbols, fixedFars, tokens)
		w.stored(last, m.said[len(w.said):])
	case fixed:
		w.fixed(last, tokens...)
	case dynamic:
		w.dynamic(last, fixedSymbols[:286], fixedFars[:30], tokens...)
	}
}

func TestNoBytesAtAll(t *testing.T) {
	for kind := range 3 {
		w := &writer{}
		w.as(kind, true)
		wantSaid(t, "a block of nothing", w)
	}
	wantAnswer(t, "stored", []byte{1, 0, 0, 0xFF, 0xFF}, nil, 5, []int{stored}, api.OK)
	wantAnswer(t, "fixed", []byte{3, 0}, nil, 2, []int{fixed}, api.OK)
	wantError(t, "nil", nil, api.ErrTorn)
	wantError(t, "empty", []byte{}, api.ErrTorn)
}

func TestByHand(t *testing.T) {
	w := &writer{said: []byte("\x00\x8f\x90\xff"), kinds: []int{fixed}}
	w.put("1 10 00110000 10111111 110010000 111111111 0000000")
	wantSaid(t, "bytes by fixed codes", w)
	w = &writer{said: bytes.Repeat([]byte{'a'}, 5), kinds: []int{fixed}}
	w.put("1 10 10010001 0000010 00000 0000000")
	wantSaid(t, "four bytes that stood one ahead", w)
	w = &writer{said: []byte("aaab"), kinds: []int{dynamic}}
	// 257 lengths of symbols, 1 of how far, 18 of the code of lengths: 18, 0, 2 and 1 have two bits each.
	w.put("1 01 00000 00000 0111")
	w.put("000 000 010 010 000 000 000 000 000 000 000 000 000 000 000 010 000 010")
	// 97 zeros; a: 1, b: 2; 138 and 19 zeros; the end: 2; 0 of how far.
	w.put("11 0110101 01 10 11 1111111 11 0001000 10 00")
	w.put("0 0 0 10 11")
	wantSaid(t, "bytes by codes that are told", w)
}

// All rows of up to 4 blocks, of each kind, that go back into the blocks ahead.
func TestSeveralBlocks(t *testing.T) {
	contents := [][]api.Token{
		literals('a', 'b', 'c', 250),
		nil,
		append(literals('z'), api.Token{Same: 7, Far: 1}),
		{{Same: 3, Far: 2}, {Same: 11, Far: 4}},
	}
	for many := 1; many <= 4; many++ {
		for which := range 81 {
			w := &writer{}
			for i := range many {
				content := contents[(which+i)%4]
				if len(w.said) < 4 {
					content = contents[0]
				}
				w.as(which%3, i == many-1, content...)
				which /= 3
			}
			wantSaid(t, "blocks", w)
		}
	}
}

// A block ends at each of the eight bits of a byte, and one of each kind begins there.
func TestBlocksEndAnywhere(t *testing.T) {
	ends := map[int]int{}
	for many := range 8 {
		for kind := range 3 {
			w := &writer{}
			w.fixed(false, literals(slices.Repeat([]byte{255}, many)...)...)
			ends[len(w.bits)%8]++
			w.as(kind, true, literals('x')...)
			wantSaid(t, "a block behind others", w)
			w = &writer{}
			w.as(kind, true, literals(slices.Repeat([]byte{255}, many)...)...)
			wantSaid(t, "a block alone", w)
		}
	}
	if len(ends) != 8 {
		t.Errorf("blocks end at these bits: %v", ends)
	}
}

// What is left of the byte ahead of a Stored block's numbers is passed over.
func TestStoredWhateverIsLeft(t *testing.T) {
	for left := range 32 {
		row := append([]byte{byte(1 | left<<3)}, 2, 0, 0xFD, 0xFF, 'h', 'i', 9)
		wantAnswer(t, "stored", row, []byte("hi"), 7, []int{stored}, api.OK)
	}
}

func TestHowMany(t *testing.T) {
	for n := api.MinSame; n <= api.MaxSame; n++ {
		for _, kind := range []int{fixed, dynamic} {
			w := &writer{}
			w.as(kind, true, append(literals('p', 'q'), api.Token{Same: n, Far: 2}, api.Token{Same: n, Far: 1})...)
			if len(w.said) != 2+2*n {
				t.Fatalf("%d bytes were written", len(w.said))
			}
			wantSaid(t, "bytes that stood ahead", w)
		}
	}
}

// 258 bytes are told by 285; by 284 with all bits of the rest, too.
func TestLastOfAll(t *testing.T) {
	for rest := range 32 {
		w := &writer{}
		w.head(true, fixed)
		w.tokens(fixedSymbols, fixedFars, literals('k'))
		w.code(fixedSymbols, 284)
		w.number(rest, 5)
		w.code(fixedFars, 0)
		w.code(fixedSymbols, 256)
		w.said = bytes.Repeat([]byte{'k'}, 1+227+rest)
		wantSaid(t, "by 284", w)
	}
}

func TestHowFar(t *testing.T) {
	ahead := noise(api.MaxBytes-3, 256, 9)
	for far := 1; far <= len(ahead); far++ {
		if far > 300 && far%97 > 2 && far < len(ahead)-3 {
			continue
		}
		for _, kind := range []int{fixed, dynamic} {
			w := &writer{}
			w.stored(false, ahead)
			w.as(kind, true, api.Token{Same: 3, Far: far})
			wantSaid(t, "bytes far ahead", w)
		}
	}
}

// Back to the first byte, and one farther, from a block of each kind behind one of each kind.
func TestBackToTheFirstByte(t *testing.T) {
	for ahead := range 3 {
		for _, kind := range []int{fixed, dynamic} {
			for _, many := range []int{1, 2, 3, 4, 5, 6, 7, 8, 30, 1000} {
				w := &writer{}
				w.as(ahead, false, literals(noise(many, 256, 3)...)...)
				far := &writer{bits: slices.Clone(w.bits)}
				w.as(kind, true, api.Token{Same: 5, Far: many})
				wantSaid(t, "back to the first byte", w)
				far.as(kind, true, api.Token{Same: 5, Far: many + 1})
				wantError(t, "one farther", far.row(), api.ErrFar)
			}
		}
	}
}

// twoAndEnd: lengths of the symbols a, of the end, and of 3 bytes that are the same.
func twoAndEnd(end, same int) []int { return lengths(258, map[int]int{'a': 1, 256: end, 257: same}) }

// whole: a Dynamic block with these symbols of the code of lengths.
func whole(symbols, fars []int, tokens []api.Token, runs ...[2]int) *writer {
	w := &writer{}
	w.head(true, dynamic)
	w.counts(len(symbols), len(fars), 19)
	w.own(flat, 19)
	w.told(flat, runs...)
	w.tokens(symbols, fars, tokens)
	w.code(symbols, 256)
	return w
}

func TestLengthsToldAgain(t *testing.T) {
	tokens := append(literals('a'), api.Token{Same: 3, Far: 1})
	zeros := [2]int{18, 97 - 11}
	more := [2]int{18, 138 - 11}
	// 158 zeros lie between a and the end: 138, 10, and 10.
	w := whole(twoAndEnd(2, 2), []int{1}, tokens, zeros, [2]int{1}, more, [2]int{17, 7}, [2]int{17, 7}, [2]int{2}, [2]int{2}, [2]int{1})
	wantSaid(t, "zeros by 17 and 18", w)
	for rest := range 8 {
		runs := append([][2]int{zeros, {1}, more, {17, rest}}, plain(make([]int, 20-3-rest), []int{2, 2, 1})...)
		wantSaid(t, "zeros by 17", whole(twoAndEnd(2, 2), []int{1}, tokens, runs...))
		// A zero is a length that is told again, too.
		if rest < 4 {
			runs[3] = [2]int{16, rest}
			wantSaid(t, "zeros by 16", whole(twoAndEnd(2, 2), []int{1}, tokens, runs...))
		}
	}
	for rest := range 128 {
		runs := append([][2]int{zeros, {1}, {18, rest}}, plain(make([]int, 158-11-rest), []int{2, 2, 1})...)
		wantSaid(t, "zeros by 18", whole(twoAndEnd(2, 2), []int{1}, tokens, runs...))
	}
}

// From the lengths of symbols over into those of how far.
func TestLengthsToldAgainOver(t *testing.T) {
	ahead := [][2]int{{18, 97 - 11}, {1}, {18, 138 - 11}, {18, 20 - 11}}
	tokens := append(literals('a'), api.Token{Same: 3, Far: 1})
	for rest := range 4 {
		// The end has the length 3; the next ones are told by 16: the one of 257, and all of how far.
		runs := append(slices.Clone(ahead), [2]int{3}, [2]int{16, rest})
		w := whole(twoAndEnd(3, 3), slices.Repeat([]int{3}, 2+rest), tokens, runs...)
		wantSaid(t, "by 16", w)
	}
	symbols := lengths(257, map[int]int{'a': 1, 256: 1})
	for fars := 1; fars <= 30; fars++ {
		runs := append(slices.Clone(ahead), [2]int{1}, [2]int{17, fars - 3})
		if fars > 10 {
			runs[5] = [2]int{18, fars - 11}
		}
		if fars >= 3 {
			wantSaid(t, "no how far", whole(symbols, make([]int, fars), literals('a', 'a'), runs...))
		}
	}
	// Zeros from behind the end over all that follows.
	runs := append(slices.Clone(ahead), [2]int{1}, [2]int{18, 29 + 30 - 11})
	wantSaid(t, "no how far", whole(append(symbols, make([]int, 29)...), make([]int, 30), literals('a'), runs...))
}

// A code of lengths of as few lengths as may be, up to all of them.
func TestCodeOfLengths(t *testing.T) {
	for many := 5; many <= 19; many++ {
		own := make([]int, 19)
		// The zeros, and the length that comes last.
		length := ownPlaces[many-1]
		own[length], own[18] = 1, 1
		if length == 0 {
			continue
		}
		w := &writer{}
		w.head(true, dynamic)
		w.counts(257, 30, many)
		w.own(own, many)
		w.told(own, [2]int{18, 127}, [2]int{18, 118 - 11}, [2]int{length}, [2]int{18, 30 - 11})
		w.code(lengths(257, map[int]int{256: length}), 256)
		wantSaid(t, "the end alone", w)
	}
	// Four alone: 16, 17, 18 and 0. So no length is told, and the end has none.
	w := &writer{}
	w.head(true, dynamic)
	w.counts(257, 1, 4)
	own := lengths(19, map[int]int{16: 2, 17: 2, 18: 2, 0: 2})
	w.own(own, 4)
	w.told(own, [2]int{18, 127}, [2]int{18, 109 - 11}, [2]int{17, 7}, [2]int{0})
	wantError(t, "zeros alone", w.row(), api.ErrCode)
}

// Codes of one place alone, of whichever length, of each of the three.
func TestOnePlaceAlone(t *testing.T) {
	for n := 1; n <= api.MaxBits; n++ {
		w := &writer{}
		w.dynamic(true, lengths(257, map[int]int{256: n}), []int{0})
		wantSaid(t, "the end alone", w)
		w = &writer{}
		w.stored(false, []byte("abcd"))
		w.dynamic(true, lengths(258, map[int]int{256: 1, 257: 2}), lengths(4, map[int]int{3: n}), api.Token{Same: 3, Far: 4})
		wantSaid(t, "one how far", w)
	}
	for n := 1; n <= 7; n++ {
		own := lengths(19, map[int]int{8: n})
		w := &writer{}
		w.head(true, dynamic)
		w.counts(257, 1, 19)
		w.own(own, 19)
		w.told(own, slices.Repeat([][2]int{{8}}, 258)...)
		// 257 places of 8 bits are no code: the lengths themselves were read.
		wantError(t, "one length, too many places", w.row(), api.ErrCode)
	}
}

// Codes that leave room are codes; those that package block writes never do.
func TestCodesWithRoom(t *testing.T) {
	symbols := lengths(286, map[int]int{'x': 3, 'y': 5, 256: 4, 258: 15, 285: 14})
	fars := lengths(30, map[int]int{0: 3, 1: 15, 5: 7})
	w := &writer{}
	w.dynamic(false, symbols, fars, append(literals('x', 'y', 'y', 'x'), api.Token{Same: 4, Far: 2}, api.Token{Same: 258, Far: 1}, api.Token{Same: 4, Far: 8})...)
	w.dynamic(true, symbols, fars, api.Token{Same: 258, Far: 2})
	wantSaid(t, "codes with room", w)
}

// Codes of all lengths.
func TestLongCodes(t *testing.T) {
	symbols, fars := make([]int, 286), make([]int, 30)
	for i := range 15 {
		symbols[10*i], fars[i] = i+1, 15-i
	}
	symbols[256], fars[15] = 15, 15
	w := &writer{}
	w.dynamic(false, symbols, fars, literals(0, 140, 70, 10, 130, 0)...)
	symbols[257], symbols[140] = 15, 0
	w.dynamic(true, symbols, fars, append(literals(130), api.Token{Same: 3, Far: 7}, api.Token{Same: 3, Far: 1}, api.Token{Same: 3, Far: 9})...)
	wantSaid(t, "codes of all lengths", w)
}

// A block without any length of how far, that wants none.
func TestNoHowFar(t *testing.T) {
	for many := 1; many <= 30; many++ {
		w := &writer{}
		w.dynamic(true, lengths(286, map[int]int{'n': 1, 256: 2, 257: 3}), make([]int, many), literals('n', 'n', 'n', 'n')...)
		wantSaid(t, "no how far", w)
	}
}

func TestAsManyBytesAsMayBe(t *testing.T) {
	for kind := range 3 {
		w := &writer{}
		w.as(kind, true, literals(noise(api.MaxBytes, 128, 2)...)...)
		wantSaid(t, "as many bytes as may be", w)
		for _, ahead := range []int{1, api.MaxBytes - 259, api.MaxBytes - 3, api.MaxBytes - 1, api.MaxBytes} {
			w = &writer{}
			w.upTo(ahead)
			w.as(kind, false, literals(noise(min(api.MaxBytes-ahead, 100), 256, 4)...)...)
			w.upTo(api.MaxBytes)
			w.as(kind, true)
			if len(w.said) != api.MaxBytes {
				t.Fatalf("%d bytes were written", len(w.said))
			}
			wantSaid(t, "as many bytes as may be, behind others", w)
		}
	}
	w := &writer{}
	w.upTo(api.MaxBytes - 258)
	w.fixed(true, api.Token{Same: 258, Far: api.MaxBytes - 258})
	wantSaid(t, "as many bytes as may be, the last ones stood ahead", w)
}

func TestAsManyPackedBytesAsMayBe(t *testing.T) {
	w := &writer{}
	for i := range api.MaxPacked / 5 {
		w.stored(i == api.MaxPacked/5-1, nil)
	}
	wantAnswer(t, "Stored blocks", w.row(), nil, api.MaxPacked, w.kinds, api.OK)
	wantError(t, "a byte more", append(w.row(), 0), api.ErrMany)
	w = &writer{}
	for i := range api.MaxPacked * 8 / 10 {
		w.fixed(i == api.MaxPacked*8/10-1)
	}
	wantAnswer(t, "Fixed blocks", w.row(), nil, api.MaxPacked, w.kinds, api.OK)
	wantError(t, "a byte more", append(w.row(), 0), api.ErrMany)
	row := append([]byte{3, 0}, make([]byte, api.MaxPacked-2)...)
	wantAnswer(t, "bytes behind", row, nil, 2, []int{fixed}, api.OK)
	wantError(t, "bytes behind, and one more", append(row, 0), api.ErrMany)
	wantError(t, "far more", make([]byte, 100000), api.ErrMany)
	// Too many are told ahead of all that is wrong with them.
	wantError(t, "no last block", make([]byte, api.MaxPacked), api.ErrForm)
	wantError(t, "no last block, a byte more", make([]byte, api.MaxPacked+1), api.ErrMany)
	wantError(t, "no kind, a byte more", bytes.Repeat([]byte{7}, api.MaxPacked+1), api.ErrMany)
}

// What the library packs.
func TestOfTheLibrary(t *testing.T) {
	texts := [][]byte{nil, []byte("a"), []byte(strings.Repeat("to be or not to be ", 100)), noise(api.MaxBytes, 256, 1), noise(api.MaxBytes, 3, 2), make([]byte, api.MaxBytes)}
	for _, level := range []int{flate.HuffmanOnly, 0, 1, 5, 6, 9} {
		for _, b := range texts {
			var packed bytes.Buffer
			w, err := flate.NewWriter(&packed, level)
			if err != nil {
				t.Fatal(err)
			}
			for piece := range slices.Chunk(b, 700) {
				if _, err := w.Write(piece); err != nil {
					t.Fatal(err)
				}
				if err := w.Flush(); err != nil {
					t.Fatal(err)
				}
			}
			if err := w.Close(); err != nil {
				t.Fatal(err)
			}
			out, used, _, e := inflate.Unpack(append(packed.Bytes(), 1, 2, 3))
			if e != api.OK || used != packed.Len() || !bytes.Equal(out, b) {
				t.Errorf("level %d, %d bytes: %d bytes said, %d of %d read, %v", level, len(b), len(out), used, packed.Len(), e)
			}
		}
	}
}
