package gz_test

import (
	"bytes"
	"slices"
	"strings"
	"testing"

	"reliquary/api"
	"reliquary/block"
	"reliquary/gz"
	"reliquary/sum"
)

// row: a text of bits as a row, with zeros up to whole bytes; spaces stand between them for the eye.
func row(s string) []byte {
	s = strings.ReplaceAll(s, " ", "")
	b := make([]byte, (len(s)+7)/8)
	for i := range len(s) {
		b[i/8] |= (s[i] - '0') << (i % 8)
	}
	return b
}

// wrongBlocks: a row that chapter 6's Unpack refuses, and by which error.
type wrongBlocks struct {
	what string
	row  []byte
	e    api.Errno
}

// own: the code of lengths of some of the rows below: 0 is told by 00, 1 by 01, 2 by 10, 18 by 11.
const own = "000 000 010 010 000 000 000 000 000 000 000 000 000 000 000 010 000 010"

// full: as many bytes as may be said, in a Stored block that isn't the last one.
func full() []byte {
	blocks, _ := block.Pack([][]byte{noise(api.MaxBytes, 256, 4)}, []int{api.Stored})
	blocks[0] = 0
	return blocks
}

// allWrongBlocks: something of each error, of each cause.
func allWrongBlocks() []wrongBlocks {
	return []wrongBlocks{
		{"kind 3", row("1 11"), api.ErrForm},
		{"kind 3 behind another block", row("0 10 0000000 1 11"), api.ErrForm},
		{"a number that isn't turned", []byte{1, 2, 0, 0xFC, 0xFF, 'h', 'i'}, api.ErrForm},
		{"287 lengths of symbols", row("1 01 01111 00000 0000"), api.ErrCode},
		{"31 lengths of how far", row("1 01 00000 01111 0000"), api.ErrCode},
		{"a code of lengths that is none", row("1 01 00000 00000 0000 100 100 100 000"), api.ErrCode},
		{"none ahead of a 16", row("1 01 00000 00000 0000 100 000 000 000 0"), api.ErrCode},
		{"a time too often", row("1 01 00000 00000 0000 000 000 100 100 1 1111111 1 1111111"), api.ErrCode},
		{"256 has no length", row("1 01 00000 00000 0000 000 000 100 100 1 1111111 1 1011011"), api.ErrCode},
		{"no code of a length", row("1 01 00000 00000 0000 000 000 000 000 000000000000000"), api.ErrCode},
		{"no code of symbols", row("1 01 00000 00000 0111 " + own + " 11 1111111 11 0001011 01 01 01 01 00"), api.ErrCode},
		{"no code of how far", row("1 01 00000 01000 0111 " + own + " 11 1111111 11 1101011 01 01 01 01"), api.ErrCode},
		{"bits that are no code", row("1 01 00000 00000 0111 " + own + " 11 1111111 11 1101011 01 00 111111111111111"), api.ErrCode},
		{"the symbol 286", row("1 10 11000110"), api.ErrCode},
		{"30 of how far", row("1 10 00110000 0000001 11110"), api.ErrCode},
		{"back beyond the first byte", row("1 10 0000001 00000"), api.ErrFar},
		{"one too far", row("1 10 00110000 0000001 00001 0000000"), api.ErrFar},
		{"too many by a Stored block", []byte{1, 0xB9, 0x0B, 0x46, 0xF4}, api.ErrMany},
		{"too many by a byte", slices.Concat(full(), row("1 10 00110000 0000000")), api.ErrMany},
		{"too many that stood ahead", slices.Concat(full(), row("1 10 0000001 00000 0000000")), api.ErrMany},
	}
}

// tornBlocks: rows that end too soon, with nothing behind them.
func tornBlocks() [][]byte {
	return [][]byte{nil, row("0 10 0000000"), {1}, {1, 2, 0, 0xFD}, {1, 2, 0, 0xFD, 0xFF, 'h'}, {3}, row("1 01 00000"), row("1 10 00110000 00"), full()}
}

func TestEachErrorOfTheBlocks(t *testing.T) {
	for _, w := range allWrongBlocks() {
		wantError(t, w.what, slices.Concat(head, w.row), w.e)
	}
	for _, blocks := range tornBlocks() {
		wantError(t, "blocks that end too soon", slices.Concat(head, blocks), api.ErrTorn)
	}
}

// Whatever stands behind blocks that are wrong: what is wrong with them comes first.
func TestBlocksAheadOfWhatIsBehind(t *testing.T) {
	for _, w := range allWrongBlocks() {
		for many := range 12 {
			wantError(t, w.what+", zeros behind", slices.Concat(head, w.row, make([]byte, many)), w.e)
			wantError(t, w.what+", ones behind", slices.Concat(head, w.row, bytes.Repeat([]byte{255}, many)), w.e)
		}
	}
}

func TestEachOfTheFirstBytes(t *testing.T) {
	for _, b := range [][]byte{nil, []byte("a"), []byte("123456789"), noise(api.MaxBytes, 256, 1)} {
		right := packed(t, b)
		for i := range 10 {
			for x := range 256 {
				other := slices.Clone(right)
				other[i] = byte(x)
				if other[i] != right[i] {
					wantError(t, "another head", other, api.ErrForm)
				}
			}
		}
		wantError(t, "without its first byte", right[1:], api.ErrForm)
		wantError(t, "a byte ahead", append([]byte{0}, right...), api.ErrForm)
		wantError(t, "no head", right[10:], api.ErrForm)
	}
}

func TestFewerThanTenBytes(t *testing.T) {
	wantError(t, "nil", nil, api.ErrForm)
	for k := range 10 {
		wantError(t, "a piece of the head", head[:k:k], api.ErrForm)
		wantError(t, "a piece of the head", head[:k], api.ErrForm)
		wantError(t, "zeros", make([]byte, k), api.ErrForm)
	}
	wantError(t, "the head alone", head, api.ErrTorn)
}

// What is cut behind the head, wherever, ends too soon.
func TestCutAnywhere(t *testing.T) {
	for _, b := range [][]byte{nil, []byte("a"), noise(70, 256, 1), noise(500, 4, 1)} {
		right := packed(t, b)
		for k := range right {
			want := api.ErrTorn
			if k < 10 {
				want = api.ErrForm
			}
			wantError(t, "cut", right[:k], want)
		}
	}
}

func TestHowManyBytesAreBehind(t *testing.T) {
	for _, b := range samples() {
		right := packed(t, b)
		n := len(right) - 8
		for many := range 8 {
			wantError(t, "fewer than eight", right[:n+many], api.ErrTorn)
		}
		wantUnpack(t, "eight", right, b)
		for x := range 256 {
			wantError(t, "nine", append(right[:n+8:n+8], byte(x)), api.ErrForm)
		}
		for _, many := range []int{2, 3, 7, 8, 9, 100, 1000} {
			wantError(t, "more", append(right[:n+8:n+8], make([]byte, many)...), api.ErrForm)
			wantError(t, "a byte between", slices.Concat(right[:n], make([]byte, many), right[n:]), api.ErrForm)
		}
	}
}

// gzip lets several stand one behind the other; here nothing may.
func TestTwoOneBehindTheOther(t *testing.T) {
	for _, b := range [][]byte{nil, []byte("a"), noise(1000, 256, 6)} {
		right := packed(t, b)
		wantError(t, "twice", slices.Concat(right, right), api.ErrForm)
	}
}

func TestEachBitOfTheLastBytes(t *testing.T) {
	for _, b := range samples() {
		right := packed(t, b)
		for k := range 64 {
			other := slices.Clone(right)
			other[len(other)-8+k/8] ^= 1 << (k % 8)
			wantError(t, "a bit turned", other, api.ErrSum)
		}
	}
}

// Sums that aren't these numbers: in another order, of other bytes, another sum.
func TestOtherSums(t *testing.T) {
	for _, b := range [][]byte{[]byte("a"), []byte("123456789"), noise(api.MaxBytes, 256, 1)} {
		right := packed(t, b)
		n := len(right) - 8
		crc, many := right[n:n+4], right[n+4:]
		adler, _ := sum.Adler(b)
		turnedCRC, turnedMany := slices.Clone(crc), slices.Clone(many)
		slices.Reverse(turnedCRC)
		slices.Reverse(turnedMany)
		for _, last := range [][]byte{
			slices.Concat(many, crc),
			slices.Concat(turnedCRC, many),
			slices.Concat(crc, turnedMany),
			slices.Concat(turnedCRC, turnedMany),
			slices.Concat(number(adler), many),
			slices.Concat(make([]byte, 4), many),
			slices.Concat(crc, make([]byte, 4)),
			slices.Concat(crc, number(uint32(n-10))),
			make([]byte, 8),
			tail(right[10:n]),
			tail(append(slices.Clone(b), 0)),
			tail(b[1:]),
		} {
			wantError(t, "another sum", slices.Concat(right[:n], last), api.ErrSum)
		}
	}
}

// The sum is of what the blocks say, whatever is told: other bytes, as many of them, in right blocks.
func TestOtherBytesThanTheSumHas(t *testing.T) {
	for _, b := range [][]byte{[]byte("a"), []byte("abcabcabc"), noise(300, 256, 7)} {
		for i := range b {
			other := slices.Clone(b)
			other[i] ^= 1
			best, _, _ := block.Best(other)
			wantError(t, "another byte", wrapped(best, b), api.ErrSum)
			wantUnpack(t, "the other one's", wrapped(best, other), other)
		}
	}
}

// Of two things that are wrong the one that the chapter names first is told.
func TestTheFirstOfTwo(t *testing.T) {
	right := packed(t, []byte("123456789"))
	n := len(right) - 8
	other := func(row []byte, at int) []byte {
		row = slices.Clone(row)
		row[at] ^= 1
		return row
	}
	many := make([]byte, api.MaxPacked+1-len(right))
	// Too many ahead of all else.
	wantError(t, "too many, another head", other(append(right[:n+8:n+8], many...), 3), api.ErrMany)
	wantError(t, "too many, no head", make([]byte, api.MaxPacked+1), api.ErrMany)
	wantError(t, "too many, bytes behind", append(right[:n+8:n+8], many...), api.ErrMany)
	wantError(t, "one fewer", append(right[:n+8:n+8], many[1:]...), api.ErrForm)
	for _, w := range allWrongBlocks() {
		blocks := slices.Concat(head, w.row)
		wantError(t, "too many, "+w.what, append(blocks, make([]byte, api.MaxPacked+1-len(blocks))...), api.ErrMany)
		// The head ahead of the blocks.
		for i := range 10 {
			wantError(t, "another head, "+w.what, other(blocks, i), api.ErrForm)
		}
	}
	for i := range 10 {
		// The head ahead of what ends too soon, and of what is behind.
		for k := i + 1; k < len(right); k++ {
			wantError(t, "another head, cut", other(right[:k], i), api.ErrForm)
		}
		wantError(t, "another head, another sum", other(other(right, n), i), api.ErrForm)
		wantError(t, "another head, more behind", append(other(right, i), 0), api.ErrForm)
	}
	for k := range 7 {
		// How many bytes are behind ahead of what they are.
		wantError(t, "fewer behind, another sum", other(right[:n+k+1], n+k), api.ErrTorn)
		wantError(t, "more behind, another sum", append(other(right, n+k), 0), api.ErrForm)
	}
}

// As many bytes as may be said, and one more, by blocks of each kind.
func TestTooManyAreSaid(t *testing.T) {
	b := noise(api.MaxBytes+1, 256, 4)
	for kind := range 3 {
		none, _ := block.Pack([][]byte{nil}, []int{kind})
		one, _ := block.Pack([][]byte{b[api.MaxBytes:]}, []int{kind})
		wantUnpack(t, "as many as may be", wrapped(slices.Concat(full(), none), b[:api.MaxBytes]), b[:api.MaxBytes])
		wantError(t, "one more", wrapped(slices.Concat(full(), one), b), api.ErrMany)
	}
}

// A call that answers an error leaves nothing to the next one.
func TestErrorsComeAgain(t *testing.T) {
	for range 3 {
		for _, w := range allWrongBlocks() {
			wantError(t, w.what, slices.Concat(head, w.row), w.e)
		}
		wantUnpack(t, "behind errors", packed(t, []byte("a")), []byte("a"))
		if got, e := gz.Pack(noise(api.MaxBytes+1, 256, 1)); got != nil || e != api.ErrMany {
			t.Errorf("Pack of too many: %d bytes %v", len(got), e)
		}
	}
}
