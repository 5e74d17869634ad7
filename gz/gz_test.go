package gz_test

import (
	"bytes"
	"compress/gzip"
	"hash/crc32"
	"io"
	"math"
	"slices"
	"strings"
	"testing"

	"reliquary/api"
	"reliquary/block"
	"reliquary/gz"
	"reliquary/inflate"
)

// head: the ten first bytes.
var head = []byte{0x1F, 0x8B, 0x08, 0x00, 0x00, 0x00, 0x00, 0x00, 0x00, 0xFF}

// noise: bytes of so many kinds.
func noise(many, kinds int, seed uint32) []byte {
	b := make([]byte, many)
	x := seed
	for i := range b {
		x = x*1664525 + 1013904223
		b[i] = byte(int(x>>8) % kinds)
	}
	return b
}

// number of four bytes, the lowest one first.
func number(n uint32) []byte { return []byte{byte(n), byte(n >> 8), byte(n >> 16), byte(n >> 24)} }

// tail: the eight last bytes.
func tail(b []byte) []byte {
	return slices.Concat(number(crc32.ChecksumIEEE(b)), number(uint32(len(b))))
}

// wrapped: blocks that say b, with what stands ahead and behind.
func wrapped(blocks, b []byte) []byte { return slices.Concat(head, blocks, tail(b)) }

// model: Unpack by the chapter's words, with the library's sum.
func model(b []byte) ([]byte, api.Errno) {
	if len(b) > api.MaxPacked {
		return nil, api.ErrMany
	}
	if !bytes.HasPrefix(b, head) {
		return nil, api.ErrForm
	}
	out, used, _, e := inflate.Unpack(b[10:])
	if e != api.OK {
		return nil, e
	}
	behind := b[10+used:]
	if len(behind) < 8 {
		return nil, api.ErrTorn
	}
	if len(behind) > 8 {
		return nil, api.ErrForm
	}
	if !bytes.Equal(behind, tail(out)) {
		return nil, api.ErrSum
	}
	return out, api.OK
}

// samples: bytes of all sorts: that are stored best, by fixed codes, by codes of their own; as few and as many as may be.
func samples() [][]byte {
	l := [][]byte{nil, {}, {0}, {255}, []byte("a"), []byte("123456789"), []byte("abcabcabc")}
	for _, many := range []int{2, 3, 10, 75, 255, 256, 257, 1000, api.MaxBytes - 1, api.MaxBytes} {
		for _, kinds := range []int{1, 2, 20, 256} {
			l = append(l, noise(many, kinds, uint32(many+kinds)))
		}
	}
	return append(l, []byte(strings.Repeat("to be or not to be ", 150)))
}

// packed: what Pack answers of bytes that it takes.
func packed(t *testing.T, b []byte) []byte {
	t.Helper()
	row, e := gz.Pack(b)
	if e != api.OK {
		t.Fatalf("Pack of %d bytes: %v", len(b), e)
	}
	return row
}

func wantPack(t *testing.T, b, want []byte) {
	t.Helper()
	if got, e := gz.Pack(b); !bytes.Equal(got, want) || e != api.OK {
		t.Errorf("Pack of %d bytes: % X %v, want % X", len(b), got, e, want)
	}
}

func wantUnpack(t *testing.T, what string, row, want []byte) {
	t.Helper()
	if got, e := gz.Unpack(row); !bytes.Equal(got, want) || e != api.OK {
		t.Errorf("%s: Unpack of %d bytes: %d bytes %v, want %d", what, len(row), len(got), e, len(want))
	}
}

// wantError: Unpack must give up, with nothing beside the error.
func wantError(t *testing.T, what string, row []byte, want api.Errno) {
	t.Helper()
	if got, e := gz.Unpack(row); got != nil || e != want {
		t.Errorf("%s: Unpack of %d bytes: %d bytes %v, want %v", what, len(row), len(got), e, want)
	}
}

func TestPackByHand(t *testing.T) {
	none := []byte{0x1F, 0x8B, 8, 0, 0, 0, 0, 0, 0, 0xFF, 3, 0, 0, 0, 0, 0, 0, 0, 0, 0}
	wantPack(t, nil, none)
	wantPack(t, []byte{}, none)
	// a by fixed codes: 1 10 10010001 0000000; its CRC is E8B7BE43.
	wantPack(t, []byte("a"), []byte{0x1F, 0x8B, 8, 0, 0, 0, 0, 0, 0, 0xFF, 0x4B, 4, 0, 0x43, 0xBE, 0xB7, 0xE8, 1, 0, 0, 0})
	// abcabcabc as chapter 6's example has it.
	row := packed(t, []byte("abcabcabc"))
	if !bytes.Equal(row[:16], slices.Concat(head, []byte{0x4B, 0x4C, 0x4A, 0x86, 0x20, 0})) {
		t.Errorf("Pack of abcabcabc: % X", row)
	}
	row = packed(t, []byte("123456789"))
	if !bytes.Equal(row[len(row)-8:], []byte{0x26, 0x39, 0xF4, 0xCB, 9, 0, 0, 0}) {
		t.Errorf("Pack of 123456789 ends with % X", row[len(row)-8:])
	}
}

func TestPackOfOneByte(t *testing.T) {
	for x := range 256 {
		b := []byte{byte(x)}
		best, _, _ := block.Best(b)
		wantPack(t, b, wrapped(best, b))
	}
}

func TestPackIsBestWithItsSum(t *testing.T) {
	kinds := map[int]int{}
	for _, b := range samples() {
		best, kind, e := block.Best(b)
		if e != api.OK {
			t.Fatalf("Best of %d bytes: %v", len(b), e)
		}
		kinds[kind]++
		wantPack(t, b, wrapped(best, b))
	}
	if len(kinds) != 3 {
		t.Errorf("the samples are best packed by these kinds alone: %v", kinds)
	}
}

func TestPackOfTooMany(t *testing.T) {
	b := noise(10*api.MaxBytes, 256, 3)
	for _, many := range []int{api.MaxBytes + 1, api.MaxBytes + 2, api.MaxPacked, 10 * api.MaxBytes} {
		for _, c := range [][]byte{b[:many], make([]byte, many)} {
			if got, e := gz.Pack(c); got != nil || e != api.ErrMany {
				t.Errorf("Pack of %d bytes: %d bytes %v, want %v", many, len(got), e, api.ErrMany)
			}
		}
	}
}

// Whoever reads gzip reads what is packed.
func TestTheLibraryReadsWhatIsPacked(t *testing.T) {
	for _, b := range samples() {
		r, err := gzip.NewReader(bytes.NewReader(packed(t, b)))
		if err != nil {
			t.Fatalf("%d bytes: %v", len(b), err)
		}
		got, err := io.ReadAll(r)
		if err != nil || !bytes.Equal(got, b) {
			t.Errorf("%d bytes: the library reads %d, %v", len(b), len(got), err)
		}
	}
}

// What others packed is unpacked, if it begins so: the library's default does, its best doesn't.
func TestWhatTheLibraryPacked(t *testing.T) {
	for _, b := range samples() {
		for _, level := range []int{gzip.DefaultCompression, gzip.NoCompression, gzip.HuffmanOnly, gzip.BestCompression, gzip.BestSpeed} {
			var row bytes.Buffer
			w, err := gzip.NewWriterLevel(&row, level)
			if err != nil {
				t.Fatal(err)
			}
			w.Write(b)
			w.Close()
			if bytes.HasPrefix(row.Bytes(), head) {
				wantUnpack(t, "the library's", row.Bytes(), b)
			} else if level == gzip.DefaultCompression {
				t.Errorf("the library's head: % X", row.Bytes()[:10])
			} else {
				wantError(t, "the library's, with another head", row.Bytes(), api.ErrForm)
			}
		}
	}
}

func TestUnpackOfPack(t *testing.T) {
	for _, b := range samples() {
		wantUnpack(t, "Unpack of Pack", packed(t, b), b)
	}
	for x := range 256 {
		for many := range 5 {
			b := bytes.Repeat([]byte{byte(x)}, many)
			wantUnpack(t, "bytes alike", packed(t, b), b)
		}
	}
	for many := range 600 {
		b := noise(many*5, 1+many*7%256, uint32(many))
		wantUnpack(t, "Unpack of Pack", packed(t, b), b)
	}
	// What is packed may be packed once more.
	b := []byte("once more")
	for range 50 {
		row := packed(t, b)
		wantUnpack(t, "packed again and again", row, b)
		b = row
	}
}

// Blocks that no Best answers: several of them, of whichever kind, that end at whichever bit.
func TestUnpackOfSeveralBlocks(t *testing.T) {
	for seed := range uint32(300) {
		parts, kinds := [][]byte{}, []int{}
		for i := range 1 + seed%5 {
			parts = append(parts, noise(int(seed*i%70), 1+int(seed%256), seed+i))
			kinds = append(kinds, int(seed/(i+1))%3)
		}
		blocks, e := block.Pack(parts, kinds)
		if e != api.OK {
			t.Fatalf("Pack: %v", e)
		}
		wantUnpack(t, "several blocks", wrapped(blocks, slices.Concat(parts...)), slices.Concat(parts...))
	}
}

// What is left of the last byte of the blocks says nothing.
func TestWhateverIsLeftOfTheLastByte(t *testing.T) {
	for left := range 64 {
		wantUnpack(t, "no bytes", wrapped([]byte{3, byte(left << 2)}, nil), nil)
	}
}

// lastBlocks: by how many bytes they take: one or more blocks that say nothing, the last one the last.
var lastBlocks = map[int][]byte{
	2: {3, 0},                   // Fixed
	3: {2, 12, 0},               // Fixed, Fixed
	4: {2, 8, 48, 0},            // Fixed, Fixed, Fixed
	5: {1, 0, 0, 0xFF, 0xFF},    // Stored
	6: {2, 4, 0, 0, 0xFF, 0xFF}, // Fixed, Stored
}

// stuffed: blocks of just so many bytes that say b: behind it stand such that say nothing.
func stuffed(t *testing.T, b []byte, many int) []byte {
	t.Helper()
	blocks, e := block.Pack([][]byte{b}, []int{api.Stored})
	if e != api.OK {
		t.Fatalf("Pack: %v", e)
	}
	blocks[0] = 0 // others follow
	for many-len(blocks) > 6 {
		blocks = append(blocks, 0, 0, 0, 0xFF, 0xFF)
	}
	return append(blocks, lastBlocks[many-len(blocks)]...)
}

func TestUnpackOfAsManyAsMayBe(t *testing.T) {
	for _, b := range [][]byte{nil, []byte("x"), noise(api.MaxBytes, 256, 5)} {
		most := wrapped(stuffed(t, b, api.MaxPacked-18), b)
		if len(most) != api.MaxPacked {
			t.Fatalf("%d bytes", len(most))
		}
		wantUnpack(t, "as many as may be", most, b)
		more := wrapped(stuffed(t, b, api.MaxPacked-17), b)
		if len(more) != api.MaxPacked+1 {
			t.Fatalf("%d bytes", len(more))
		}
		wantError(t, "one more", more, api.ErrMany)
		wantError(t, "a byte behind", append(most, 0), api.ErrMany)
		most[0] ^= 1
		wantError(t, "as many as may be, another head", most, api.ErrForm)
	}
}

func TestWhatIsHandedInStays(t *testing.T) {
	for _, b := range samples() {
		given := append(slices.Clone(b), 1, 2, 3, 4, 5, 6, 7, 8, 9, 10, 11, 12)
		kept := slices.Clone(given)
		row, _ := gz.Pack(given[:len(b)])
		clear(row[:cap(row)])
		if !bytes.Equal(given, kept) {
			t.Fatal("Pack changed what it was given, or its spare room, or answers it")
		}
		given = append(packed(t, b), 1, 2, 3, 4, 5, 6, 7, 8, 9, 10, 11, 12)
		kept = slices.Clone(given)
		for _, cut := range []int{0, 5, 10, 11, len(given) - 13, len(given) - 12, len(given) - 11, len(given)} {
			out, _ := gz.Unpack(given[:cut])
			for i := range out[:cap(out)] {
				out[:cap(out)][i] ^= 0xFF
			}
			if !bytes.Equal(given, kept) {
				t.Fatal("Unpack changed what it was given, or its spare room, or answers it")
			}
		}
	}
}

// What stands in the spare room is none of a row.
func TestSpareRoomIsNotRead(t *testing.T) {
	for _, b := range samples() {
		row := packed(t, b)
		for _, k := range []int{0, 9, 10, 11, len(row) - 8, len(row) - 1} {
			_, e := gz.Unpack(row[:k])
			_, alone := gz.Unpack(slices.Clone(row[:k]))
			if e != alone || e == api.OK {
				t.Errorf("%d of %d bytes: %v, and %v without room", k, len(row), e, alone)
			}
		}
	}
}

func TestAnswersHangOnArgumentsAlone(t *testing.T) {
	b := noise(300, 30, 8)
	first := packed(t, b)
	kept := slices.Clone(first)
	said, _ := gz.Unpack(first)
	for range 3 {
		wantError(t, "cut", first[:40], api.ErrTorn)
		if got, e := gz.Pack(make([]byte, api.MaxBytes+1)); got != nil || e != api.ErrMany {
			t.Errorf("too many: %d bytes %v", len(got), e)
		}
		wantPack(t, b, kept)
		wantUnpack(t, "once more", kept, b)
		again, _ := gz.Unpack(first)
		clear(again)
		clear(packed(t, b))
	}
	if !bytes.Equal(first, kept) || !bytes.Equal(said, b) {
		t.Error("two answers share memory")
	}
}

// Where Unpack takes a row in which one bit was turned, it says the same bytes.
func TestATurnedBitIsTold(t *testing.T) {
	for _, b := range [][]byte{nil, []byte("a"), []byte("abcabcabc"), noise(80, 256, 2), noise(200, 3, 2)} {
		row := packed(t, b)
		for k := range 8 * len(row) {
			row[k/8] ^= 1 << (k % 8)
			if got, e := gz.Unpack(row); e == api.OK && !bytes.Equal(got, b) {
				t.Errorf("bit %d of %d bytes, turned: %q instead of %q", k, len(row), got, b)
			}
			row[k/8] ^= 1 << (k % 8)
		}
	}
}

// Rows of all sorts, held against the chapter.
func TestWhateverIsUnpacked(t *testing.T) {
	told := map[api.Errno]int{}
	for seed := range uint32(20000) {
		row := noise(int(seed%40), 256, seed*2654435761)
		switch seed % 4 {
		case 1, 2:
			row = slices.Concat(head, row)
		case 3:
			row = turned(packed(t, noise(int(seed%97), 1+int(seed%251), seed)), seed)
		}
		want, wantErr := model(row)
		got, e := gz.Unpack(row)
		if e != wantErr || !bytes.Equal(got, want) {
			t.Fatalf("Unpack of % X: % X %v, want % X %v", row, got, e, want, wantErr)
		}
		told[e]++
	}
	for _, e := range []api.Errno{api.OK, api.ErrTorn, api.ErrForm, api.ErrCode, api.ErrFar, api.ErrSum} {
		if told[e] == 0 {
			t.Errorf("the tries never have the error %v: %v", e, told)
		}
	}
}

// turned: a row with some bits turned (none, now and then), cut, or with something behind it.
func turned(row []byte, seed uint32) []byte {
	x := seed*2654435761 + 99
	for range seed / 4 % 3 {
		x = x*1664525 + 1013904223
		at := int(x>>4) % (8 * len(row))
		row[at/8] ^= 1 << (at % 8)
	}
	switch seed / 16 % 4 {
	case 1:
		return row[:len(row)-int(x>>9)%min(len(row), 12)]
	case 2:
		return append(row, noise(int(x>>9)%10, 256, x)...)
	}
	return row
}

func TestHowManyBytesIsToldInFour(t *testing.T) {
	for _, many := range []int{0, 1, 255, 256, 257, 2815, 2816, api.MaxBytes} {
		row := packed(t, make([]byte, many))
		want := []byte{byte(many % 256), byte(many / 256), 0, 0}
		if got := row[len(row)-4:]; !bytes.Equal(got, want) {
			t.Errorf("%d bytes: told % X, want % X", many, got, want)
		}
		for _, other := range []uint32{uint32(many) + 1, uint32(many) - 1, uint32(many) + 1<<16, uint32(many) + 1<<31, math.MaxUint32 - uint32(many)} {
			copy(row[len(row)-4:], number(other))
			wantError(t, "another number of bytes", row, api.ErrSum)
		}
	}
}
