package sum_test

import (
	"hash/adler32"
	"hash/crc32"
	"math"
	"slices"
	"testing"

	"reliquary/api"
	"reliquary/sum"
)

const allBits = math.MaxUint32

// sample: so many bytes without a plain order; another seed, other bytes.
func sample(many int, seed uint32) []byte {
	b := make([]byte, many)
	for i := range b {
		seed = seed*1664525 + 1013904223
		b[i] = byte(seed >> 24)
	}
	return b
}

// rows: of many kinds, from no byte to as many as may be.
func rows() [][]byte {
	l := [][]byte{nil, {}, {0}, {1}, {128}, {255}, []byte("a"), []byte("abc"), []byte("123456789")}
	for _, many := range []int{2, 3, 4, 5, 7, 8, 31, 32, 33, 255, 256, 257, 1000, api.MaxArchive - 1, api.MaxArchive} {
		l = append(l, make([]byte, many), slices.Repeat([]byte{255}, many), sample(many, uint32(many)))
	}
	return l
}

// numbers: from 0 to all bits.
func numbers() []uint32 {
	return []uint32{0, 1, 2, 0x80000000, 0x7FFFFFFF, 0xFFFFFFFE, allBits, 0xEDB88320, 0x04C11DB7, 0xCBF43926, 0x12345678, 65521, 65536}
}

// divided: the CRC by its definition, as what a polynomial leaves when it is divided. The bits of b, the lowest of each
// byte first, then 32 zeros; the first 32 of all turned; what the polynomial 04C11DB7 (and the power 32 above it)
// leaves of it, turned, its highest power in the lowest bit.
func divided(b []byte) uint32 {
	row := make([]uint64, 8*len(b)+32)
	for i := range 8 * len(b) {
		row[i] = uint64(b[i/8] >> (i % 8) & 1)
	}
	for i := range 32 {
		row[i] ^= 1
	}
	left := uint64(0)
	for _, bit := range row {
		left = left<<1 | bit
		if left>>32 == 1 {
			left ^= 0x104C11DB7
		}
	}
	crc := uint32(0)
	for i := range 32 {
		crc |= uint32(left>>i&1^1) << (31 - i)
	}
	return crc
}

// stepped: Both by the chapter's words, one bit after the other.
func stepped(a, b uint32, long int) uint32 {
	for range long {
		for range 8 {
			if a%2 == 1 {
				a = a/2 ^ 0xEDB88320
			} else {
				a /= 2
			}
		}
	}
	return a ^ b
}

// added: Adler by the chapter's words, the modulus asked at the end alone.
func added(b []byte) uint32 {
	first, second := uint64(1), uint64(0)
	for _, x := range b {
		first += uint64(x)
		second += first
	}
	return uint32(second%65521*65536 + first%65521)
}

func wantCRC(t *testing.T, before uint32, b []byte, want uint32, wantErr api.Errno) {
	t.Helper()
	if got, e := sum.CRC(before, b); got != want || e != wantErr {
		t.Errorf("CRC of %d bytes behind %08X: %08X %v, want %08X %v", len(b), before, got, e, want, wantErr)
	}
}

func wantBoth(t *testing.T, a, b uint32, long int, want uint32, wantErr api.Errno) {
	t.Helper()
	if got, e := sum.Both(a, b, long); got != want || e != wantErr {
		t.Errorf("Both(%08X, %08X, %d): %08X %v, want %08X %v", a, b, long, got, e, want, wantErr)
	}
}

func wantAdler(t *testing.T, b []byte, want uint32, wantErr api.Errno) {
	t.Helper()
	if got, e := sum.Adler(b); got != want || e != wantErr {
		t.Errorf("Adler of %d bytes: %08X %v, want %08X %v", len(b), got, e, want, wantErr)
	}
}

// crc of bytes that aren't too many.
func crc(t *testing.T, b []byte) uint32 {
	t.Helper()
	n, e := sum.CRC(0, b)
	if e != api.OK {
		t.Fatalf("CRC of %d bytes: %v", len(b), e)
	}
	return n
}

func TestCRC(t *testing.T) {
	wantCRC(t, 0, nil, 0, api.OK)
	wantCRC(t, 0, []byte{}, 0, api.OK)
	wantCRC(t, 0, []byte{0}, 0xD202EF8D, api.OK)
	wantCRC(t, 0, []byte{255}, 0xFF000000, api.OK)
	wantCRC(t, 0, []byte("a"), 0xE8B7BE43, api.OK)
	wantCRC(t, 0, []byte("123456789"), 0xCBF43926, api.OK)
	wantCRC(t, 0, []byte("The quick brown fox jumps over the lazy dog"), 0x414FA339, api.OK)
	wantCRC(t, 0, make([]byte, 32), 0x190A55AD, api.OK)
	wantCRC(t, 0, slices.Repeat([]byte{255}, 32), 0xFF6CAB0B, api.OK)
	wantCRC(t, 0, slices.Repeat([]byte{255}, 4), allBits, api.OK)
}

func TestCRCIsWhatThePolynomialLeaves(t *testing.T) {
	for x := range 256 {
		b := []byte{byte(x)}
		wantCRC(t, 0, b, divided(b), api.OK)
	}
	for _, b := range rows() {
		wantCRC(t, 0, b, divided(b), api.OK)
		wantCRC(t, 0, b, crc32.ChecksumIEEE(b), api.OK)
	}
}

func TestCRCBehindWhereverARowIsCut(t *testing.T) {
	for _, many := range []int{0, 1, 2, 9, 300} {
		b := sample(many, 7)
		whole := divided(b)
		for cut := range many + 1 {
			wantCRC(t, crc(t, b[:cut]), b[cut:], whole, api.OK)
		}
	}
	b := sample(api.MaxArchive, 8)
	whole := divided(b)
	for _, cut := range []int{0, 1, 255, 256, 6000, api.MaxArchive - 1, api.MaxArchive} {
		wantCRC(t, crc(t, b[:cut]), b[cut:], whole, api.OK)
	}
}

func TestCRCByteByByte(t *testing.T) {
	b := sample(500, 9)
	n := uint32(0)
	for i := range b {
		var e api.Errno
		if n, e = sum.CRC(n, b[i:i+1]); e != api.OK {
			t.Fatalf("byte %d: %v", i, e)
		}
		if n != divided(b[:i+1]) {
			t.Fatalf("behind byte %d: %08X, want %08X", i, n, divided(b[:i+1]))
		}
	}
}

func TestCRCBehindAnyNumber(t *testing.T) {
	for _, before := range numbers() {
		wantCRC(t, before, nil, before, api.OK)
		for _, b := range rows() {
			wantCRC(t, before, b, crc32.Update(before, crc32.IEEETable, b), api.OK)
		}
	}
}

func TestCRCMany(t *testing.T) {
	b := sample(api.MaxArchive+1, 10)
	wantCRC(t, 0, b[:api.MaxArchive], divided(b[:api.MaxArchive]), api.OK)
	for _, before := range numbers() {
		wantCRC(t, before, b, 0, api.ErrMany)
		wantCRC(t, before, make([]byte, 10*api.MaxArchive), 0, api.ErrMany)
	}
}

func TestBoth(t *testing.T) {
	// A bit comes off, and the polynomial stands there as soon as it does.
	wantBoth(t, 1, 0, 1, 0x77073096, api.OK)
	wantBoth(t, 0x80, 0, 1, 0xEDB88320, api.OK)
	wantBoth(t, 0x100, 0, 1, 1, api.OK)
	wantBoth(t, 0x80000000, 0, 3, 0x80, api.OK)
	wantBoth(t, 0x80000000, 0, 4, 0xEDB88320, api.OK)
	for _, a := range numbers() {
		for _, b := range numbers() {
			wantBoth(t, a, b, 0, a^b, api.OK)
			for _, long := range []int{1, 2, 3, 4, 5, 255, 256, 1000} {
				wantBoth(t, a, b, long, stepped(a, b, long), api.OK)
			}
		}
	}
}

func TestBothOfEachByte(t *testing.T) {
	for x := range uint32(256) {
		for place := range 4 {
			a := x << (8 * place)
			wantBoth(t, a, 0, 1, stepped(a, 0, 1), api.OK)
			wantBoth(t, a, allBits, 1, stepped(a, allBits, 1), api.OK)
		}
	}
}

func TestBothOfTheMost(t *testing.T) {
	for _, a := range []uint32{0, 1, allBits, 0xCBF43926} {
		for _, long := range []int{api.MaxStamp - 1, api.MaxStamp} {
			wantBoth(t, a, 0, long, stepped(a, 0, long), api.OK)
			wantBoth(t, a, allBits, long, stepped(a, allBits, long), api.OK)
		}
	}
	// 0 moved on stays 0.
	wantBoth(t, 0, 0, api.MaxStamp, 0, api.OK)
	wantBoth(t, 0, 99, api.MaxStamp, 99, api.OK)
}

func TestBothRange(t *testing.T) {
	for _, long := range []int{-1, -2, -8, -api.MaxStamp, math.MinInt, math.MinInt + 1, api.MaxStamp + 1, api.MaxStamp + 2, 1 << 32, 1<<32 + 1, math.MaxInt / 8, math.MaxInt - 1, math.MaxInt} {
		for _, a := range numbers() {
			wantBoth(t, a, 0, long, 0, api.ErrRange)
			wantBoth(t, a, allBits, long, 0, api.ErrRange)
		}
		wantBoth(t, 0, 7, long, 0, api.ErrRange)
	}
}

func TestBothIsTheCRCOfBoth(t *testing.T) {
	for _, many := range []int{0, 1, 2, 9, 300} {
		b := sample(many, 11)
		whole := divided(b)
		for cut := range many + 1 {
			wantBoth(t, crc(t, b[:cut]), crc(t, b[cut:]), many-cut, whole, api.OK)
		}
	}
	for _, first := range rows() {
		for _, second := range rows() {
			want, e := sum.CRC(crc(t, first), second)
			if e != api.OK {
				t.Fatal(e)
			}
			wantBoth(t, crc(t, first), crc(t, second), len(second), want, api.OK)
		}
	}
}

// Rows longer than CRC takes at once: as many bytes as Both takes.
func TestBothOfAMillionBytes(t *testing.T) {
	first, second := sample(100, 12), sample(api.MaxStamp, 13)
	alone, behind := uint32(0), crc(t, first)
	for piece := range slices.Chunk(second, api.MaxArchive) {
		alone, _ = sum.CRC(alone, piece)
		behind, _ = sum.CRC(behind, piece)
	}
	if want := crc32.ChecksumIEEE(slices.Concat(first, second)); behind != want {
		t.Errorf("CRC, piece by piece: %08X, want %08X", behind, want)
	}
	wantBoth(t, crc(t, first), alone, len(second), behind, api.OK)
}

func TestAdler(t *testing.T) {
	wantAdler(t, nil, 1, api.OK)
	wantAdler(t, []byte{}, 1, api.OK)
	wantAdler(t, []byte{0}, 0x00010001, api.OK)
	wantAdler(t, []byte{1}, 0x00020002, api.OK)
	wantAdler(t, []byte{255}, 0x01000100, api.OK)
	wantAdler(t, []byte("abc"), 0x024D0127, api.OK)
	wantAdler(t, []byte("Wikipedia"), 0x11E60398, api.OK)
	wantAdler(t, []byte("123456789"), 0x091E01DE, api.OK)
}

func TestAdlerIsBothSums(t *testing.T) {
	for x := range 256 {
		b := []byte{byte(x)}
		wantAdler(t, b, added(b), api.OK)
	}
	for _, b := range rows() {
		wantAdler(t, b, added(b), api.OK)
		wantAdler(t, b, adler32.Checksum(b), api.OK)
	}
}

// The second sum goes beyond the modulus behind 22 bytes 255, the first one behind 257.
func TestAdlerBeyondTheModulus(t *testing.T) {
	b := slices.Repeat([]byte{255}, api.MaxArchive)
	for many := range 1200 {
		wantAdler(t, b[:many], added(b[:many]), api.OK)
	}
	for many := 1200; many <= api.MaxArchive; many += 600 {
		wantAdler(t, b[:many], added(b[:many]), api.OK)
	}
}

// Sums that are the modulus, one less and one more: 0, 65520 and 1 are told.
func TestAdlerAtTheModulus(t *testing.T) {
	first := slices.Repeat([]byte{255}, 256)           // 1 + 256 * 255 = 65281
	second := append([]byte{9}, make([]byte, 6550)...) // 6551 * 10 = 65510
	for i, want := range []uint32{65520, 0, 1} {
		b := append(slices.Clone(first), byte(239+i))
		wantAdler(t, b, added(b), api.OK)
		if n, _ := sum.Adler(b); n%65536 != want {
			t.Errorf("the first sum: %d, want %d", n%65536, want)
		}
		b = append(slices.Clone(second), byte(i))
		wantAdler(t, b, added(b), api.OK)
		if n, _ := sum.Adler(b); n/65536 != want {
			t.Errorf("the second sum: %d, want %d", n/65536, want)
		}
	}
}

func TestAdlerMany(t *testing.T) {
	b := sample(api.MaxArchive+1, 14)
	wantAdler(t, b[:api.MaxArchive], added(b[:api.MaxArchive]), api.OK)
	wantAdler(t, b, 0, api.ErrMany)
	wantAdler(t, make([]byte, 10*api.MaxArchive), 0, api.ErrMany)
	full := slices.Repeat([]byte{255}, api.MaxArchive+1)
	wantAdler(t, full[:api.MaxArchive], added(full[:api.MaxArchive]), api.OK)
	wantAdler(t, full, 0, api.ErrMany)
}

func TestWhatIsHandedInStays(t *testing.T) {
	b := sample(100, 15)
	kept := slices.Clone(b)
	wantCRC(t, 5, b[:50], crc32.Update(5, crc32.IEEETable, kept[:50]), api.OK)
	wantAdler(t, b[:50], added(kept[:50]), api.OK)
	if !slices.Equal(b, kept) {
		t.Error("bytes that were handed in, or their spare room, were changed")
	}
	many := sample(api.MaxArchive+100, 16)
	kept = slices.Clone(many)
	wantCRC(t, 5, many[:api.MaxArchive+1], 0, api.ErrMany)
	wantAdler(t, many[:api.MaxArchive+1], 0, api.ErrMany)
	if !slices.Equal(many, kept) {
		t.Error("too many bytes that were handed in, or their spare room, were changed")
	}
}

// What stands in the spare room behind a row is none of it; and no call leaves anything to the next one.
func TestAnswersHangOnArgumentsAlone(t *testing.T) {
	b := sample(api.MaxArchive+1, 17)
	for range 3 {
		wantCRC(t, 0, b[:3], divided(slices.Clone(b[:3])), api.OK)
		wantCRC(t, 0, b, 0, api.ErrMany)
		wantBoth(t, 3, 4, -1, 0, api.ErrRange)
		wantBoth(t, 3, 4, 9, stepped(3, 4, 9), api.OK)
		wantAdler(t, b[:3], added(slices.Clone(b[:3])), api.OK)
		wantAdler(t, b, 0, api.ErrMany)
		wantCRC(t, 0, nil, 0, api.OK)
		wantAdler(t, nil, 1, api.OK)
	}
}
