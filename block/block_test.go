package block_test

import (
	"bytes"
	"compress/flate"
	"io"
	"math"
	"slices"
	"strings"
	"testing"

	"reliquary/api"
	packing "reliquary/block"
	"reliquary/weigh"
)

const (
	stored  = api.Stored
	fixed   = api.Fixed
	dynamic = api.Dynamic
)

// noise: bytes of so many kinds.
func noise(many, kinds int, seed uint32) []byte {
	b := make([]byte, many)
	x := seed
	for i := range b {
		x = x*1664525 + 1013904223
		b[i] = byte(int(x>>8) % kinds)
	}
	return b
}

// uneven: bytes that are fewer the greater they are; with the share (of 65536) it goes faster.
func uneven(many int, share, seed uint32) []byte {
	b := make([]byte, many)
	x := seed
	for i := range b {
		for {
			x = x*1664525 + 1013904223
			if b[i] == 255 || x>>16 < share {
				break
			}
			b[i]++
		}
	}
	return b
}

// spread: so many bytes, no two alike, none beside another one as far as there is room.
func spread(many int) []byte {
	b := make([]byte, many)
	for i := range b {
		b[i] = byte(2*i%256 + 2*i/256)
	}
	return b
}

// same: so many bytes of one kind.
func same(c byte, many int) []byte { return bytes.Repeat([]byte{c}, many) }

// row: a text of bits as a row, with zeros up to whole bytes; what isn't a bit is skipped.
func row(s string) []byte {
	s = strings.Join(strings.FieldsFunc(s, func(c rune) bool { return c != '0' && c != '1' }), "")
	b := make([]byte, (len(s)+7)/8)
	for i := range len(s) {
		b[i/8] |= (s[i] - '0') << (i % 8)
	}
	return b
}

// most: how many bits a block of a part may have.
func most(kind, many int) int {
	switch kind {
	case stored:
		return 47 + 8*many
	case fixed:
		return 10 + 9*many
	}
	return 3200 + 10 + 9*many
}

// inflated: what a row says to the library's reader.
func inflated(t *testing.T, row []byte) []byte {
	t.Helper()
	b, err := io.ReadAll(flate.NewReader(bytes.NewReader(row)))
	if err != nil {
		t.Fatalf("the library reads the row: %v", err)
	}
	return b
}

// wantBlocks: Pack must answer blocks that say the parts, in no more bits than they may; these blocks, as they were read.
func wantBlocks(t *testing.T, parts [][]byte, kinds []int) []block {
	t.Helper()
	out, e := packing.Pack(parts, kinds)
	if e != api.OK {
		t.Fatalf("Pack of %d parts, kinds %v: %v", len(parts), kinds, e)
	}
	if got := inflated(t, out); !bytes.Equal(got, slices.Concat(parts...)) {
		t.Fatalf("Pack of %d parts, kinds %v says %q", len(parts), kinds, got)
	}
	l := readAll(t, out)
	if len(l) != len(parts) {
		t.Fatalf("%d blocks of %d parts", len(l), len(parts))
	}
	for i, b := range l {
		if b.kind != kinds[i] || !bytes.Equal(b.bytes, parts[i]) {
			t.Fatalf("block %d is of kind %d and says %q, want %d, %q", i, b.kind, b.bytes, kinds[i], parts[i])
		}
		if b.size > most(b.kind, len(parts[i])) {
			t.Errorf("block %d of kind %d, of %d bytes, has %d bits", i, b.kind, len(parts[i]), b.size)
		}
		// With api.MaxScript such blocks of api.MaxBytes bytes together a row can still be unpacked.
		if b.size > 188+9*len(parts[i]) {
			t.Errorf("block %d of kind %d, of %d bytes, has %d bits: too many such could not be unpacked", i, b.kind, len(parts[i]), b.size)
		}
	}
	// More could not be unpacked again.
	if len(out) > api.MaxPacked {
		t.Errorf("Pack of %d parts, kinds %v: %d bytes", len(parts), kinds, len(out))
	}
	return l
}

// wantBlock: the same of one part.
func wantBlock(t *testing.T, part []byte, kind int) block {
	t.Helper()
	return wantBlocks(t, [][]byte{part}, []int{kind})[0]
}

// wantBlockOfEach: the same of one part, by each kind.
func wantBlockOfEach(t *testing.T, part []byte) {
	t.Helper()
	for kind := range 3 {
		wantBlock(t, part, kind)
	}
}

func wantPack(t *testing.T, parts [][]byte, kinds []int, want []byte) {
	t.Helper()
	got, e := packing.Pack(parts, kinds)
	if !bytes.Equal(got, want) || e != api.OK {
		t.Errorf("Pack of %q, kinds %v: %08b %v, want %08b", parts, kinds, got, e, want)
	}
}

func wantError(t *testing.T, parts [][]byte, kinds []int, want api.Errno) {
	t.Helper()
	if got, e := packing.Pack(parts, kinds); got != nil || e != want {
		t.Errorf("Pack of %d parts, %d kinds: %d bytes %v, want %v", len(parts), len(kinds), len(got), e, want)
	}
}

func TestStored(t *testing.T) {
	wantPack(t, [][]byte{nil}, []int{stored}, []byte{1, 0, 0, 0xFF, 0xFF})
	wantPack(t, [][]byte{[]byte("aa")}, []int{stored}, []byte{1, 2, 0, 0xFD, 0xFF, 'a', 'a'})
	wantPack(t, [][]byte{[]byte("a"), {}, {0xFF}}, []int{stored, stored, stored},
		[]byte{0, 1, 0, 0xFE, 0xFF, 'a', 0, 0, 0, 0xFF, 0xFF, 1, 1, 0, 0xFE, 0xFF, 0xFF})
	for _, many := range []int{1, 255, 256, 257, 2999, api.MaxBytes} {
		b := noise(many, 256, 1)
		head := []byte{1, byte(many), byte(many >> 8), ^byte(many), ^byte(many >> 8)}
		wantPack(t, [][]byte{b}, []int{stored}, append(head, b...))
	}
}

func TestFixed(t *testing.T) {
	wantPack(t, [][]byte{nil}, []int{fixed}, row("1 10 0000000"))
	wantPack(t, [][]byte{{0}}, []int{fixed}, row("1 10 00110000 0000000"))
	wantPack(t, [][]byte{{143}}, []int{fixed}, row("1 10 10111111 0000000"))
	wantPack(t, [][]byte{{144}}, []int{fixed}, row("1 10 110010000 0000000"))
	wantPack(t, [][]byte{{255}}, []int{fixed}, row("1 10 111111111 0000000"))
	wantPack(t, [][]byte{nil, {0, 255}}, []int{fixed, fixed}, row("0 10 0000000 1 10 00110000 111111111 0000000"))
	// 3 bytes that stood one ahead: 257; 11: 265 with 1 bit more; 115: 280; 258: 285. Symbols of how far: 0 first.
	wantPack(t, [][]byte{same(0, 4)}, []int{fixed}, row("1 10 00110000 0000001 00000 0000000"))
	wantPack(t, [][]byte{same(0, 12)}, []int{fixed}, row("1 10 00110000 0001001 0 00000 0000000"))
	wantPack(t, [][]byte{same(0, 13)}, []int{fixed}, row("1 10 00110000 0001001 1 00000 0000000"))
	wantPack(t, [][]byte{same(0, 116)}, []int{fixed}, row("1 10 00110000 11000000 0000 00000 0000000"))
	wantPack(t, [][]byte{same(0, 258)}, []int{fixed}, row("1 10 00110000 11000100 01111 00000 0000000"))
	wantPack(t, [][]byte{same(0, 259)}, []int{fixed}, row("1 10 00110000 11000101 00000 0000000"))
	// 6 ahead: 4 with 1 bit more.
	wantPack(t, [][]byte{{1, 2, 3, 4, 5, 6, 1, 2, 3}}, []int{fixed},
		row("1 10 00110001 00110010 00110011 00110100 00110101 00110110 0000001 00100 1 0000000"))
}

func TestDynamicOfFewKinds(t *testing.T) {
	none := wantBlock(t, nil, dynamic)
	if len(none.symbols) != 257 || none.symbols[256] != 1 || slices.Max(none.symbols[:256]) != 0 || !slices.Equal(none.fars, []int{0}) {
		t.Errorf("no byte: lengths %v, %v", none.symbols, none.fars)
	}
	for c := range 256 {
		one := wantBlock(t, []byte{byte(c)}, dynamic)
		if one.symbols[c] != 1 || one.symbols[256] != 1 || slices.Max(one.fars) != 0 {
			t.Errorf("one byte: lengths %v, %v", one.symbols, one.fars)
		}
		wantBlock(t, same(byte(c), 2), dynamic)
		many := wantBlock(t, same(byte(c), 300), dynamic)
		if many.fars[0] != 1 || slices.Max(many.fars) != 1 {
			t.Errorf("one kind of byte, how far: %v", many.fars)
		}
	}
}

func TestDynamicOfAllKinds(t *testing.T) {
	all := make([]byte, 256)
	for i := range all {
		all[i] = byte(i * 7)
	}
	b := wantBlock(t, all, dynamic)
	if slices.Min(b.symbols) == 0 || len(b.symbols) != 257 || len(b.fars) != 1 || b.fars[0] != 0 {
		t.Errorf("all kinds of bytes, no how far: %v, %v", b.symbols, b.fars)
	}
	wantBlock(t, slices.Concat(all, all, all), dynamic)
	wantBlock(t, noise(api.MaxBytes, 256, 4), dynamic)
}

// The greatest symbols that may be wanted: 258 bytes the same, and as far as may be.
func TestDynamicOfTheLastSymbols(t *testing.T) {
	b := wantBlock(t, same(9, 259), dynamic)
	if len(b.symbols) != 286 || b.symbols[285] == 0 {
		t.Errorf("258 bytes the same: %d lengths", len(b.symbols))
	}
	part := slices.Concat([]byte("abc"), same('z', api.MaxBytes-6), []byte("abc"))
	b = wantBlock(t, part, dynamic)
	if len(b.fars) != 23 || b.fars[22] == 0 {
		t.Errorf("as far as may be: %d lengths", len(b.fars))
	}
}

// It pays to tell a code that suits the bytes.
func TestDynamicCodesAreShort(t *testing.T) {
	part := []byte(strings.Repeat("to be or not to be ", 50))
	if b := wantBlock(t, part, dynamic); b.size >= 500*8 {
		t.Errorf("%d bits", b.size)
	}
	few := noise(api.MaxBytes, 4, 8)
	if d, f := wantBlock(t, few, dynamic), wantBlock(t, few, fixed); d.size >= f.size {
		t.Errorf("bytes of 4 kinds: %d bits by a code of their own, %d without", d.size, f.size)
	}
}

// Nor does it pay to tell a code of many kinds of bytes for each of them once.
func TestDynamicCodesAreToldInFewBits(t *testing.T) {
	longest := 0
	for many := range 256 {
		for seed := range uint32(4) {
			longest = max(longest, wantBlock(t, noise(many, 256, seed), dynamic).size-8*many)
		}
		longest = max(longest, wantBlock(t, spread(many), dynamic).size-8*many)
	}
	if longest < 180 {
		t.Errorf("at most %d bits beside 8 of each byte: the tries have none of many kinds", longest)
	}
}

func TestHowMany(t *testing.T) {
	for n := api.MinSame; n <= api.MaxSame; n++ {
		for _, kind := range []int{fixed, dynamic} {
			b := wantBlock(t, same('x', n+1), kind)
			if want := []api.Token{{Byte: 'x'}, {Same: n, Far: 1}}; !slices.Equal(b.tokens, want) {
				t.Errorf("%d bytes alike, kind %d: %v", n+1, kind, b.tokens)
			}
		}
	}
}

func TestHowFar(t *testing.T) {
	for far := 4; far <= api.MaxBytes-3; far++ {
		if far > 300 && far%50 > 2 && far < api.MaxBytes-5 {
			continue
		}
		part := slices.Concat([]byte("abc"), same('z', far-3), []byte("abc"))
		for _, kind := range []int{fixed, dynamic} {
			b := wantBlock(t, part, kind)
			if want := (api.Token{Same: 3, Far: far}); b.tokens[len(b.tokens)-1] != want {
				t.Errorf("%d ahead, kind %d: %v", far, kind, b.tokens)
			}
		}
	}
	for far := 1; far <= 4; far++ {
		part := []byte("abcdabcdabc")[:far]
		for range 3 {
			part = append(part, part[len(part)-far])
		}
		for _, kind := range []int{fixed, dynamic} {
			b := wantBlock(t, part, kind)
			if want := (api.Token{Same: 3, Far: far}); b.tokens[len(b.tokens)-1] != want {
				t.Errorf("%d ahead, kind %d: %v", far, kind, b.tokens)
			}
		}
	}
}

// Between two bytes of which one stands so much higher lie as many zeros.
func TestZerosAreTold(t *testing.T) {
	told := map[[2]int]int{}
	for gap := range 255 {
		for first := range 256 - gap - 1 {
			if first > 3 && gap > 20 && first%9 != 0 {
				continue
			}
			b := wantBlock(t, []byte{byte(first), byte(first + gap + 1)}, dynamic)
			want := make([]int, 257)
			want[first], want[first+gap+1], want[256] = b.symbols[first], b.symbols[first+gap+1], b.symbols[256]
			if !slices.Equal(b.symbols, want) {
				t.Fatalf("the bytes %d, %d: lengths %v", first, first+gap+1, b.symbols)
			}
			for _, s := range b.told {
				told[s]++
			}
		}
	}
	for times := 3; times <= 10; times++ {
		if told[[2]int{17, times}] == 0 {
			t.Errorf("%d zeros are never told by 17", times)
		}
	}
	for times := 11; times <= 138; times++ {
		if told[[2]int{18, times}] == 0 {
			t.Errorf("%d zeros are never told by 18", times)
		}
	}
}

// Bytes of 127 kinds, and the end: 128 codes of 7 bits. The first of them stand side by side, the others don't. All are
// there and back again, so that the codes pay, and none stood ahead.
func TestLengthsAreToldAgain(t *testing.T) {
	told := map[[2]int]int{}
	for run := 1; run <= 127; run++ {
		var part []byte
		for c := range run {
			part = append(part, byte(c))
		}
		for i := range 127 - run {
			part = append(part, byte(run+1+2*i))
		}
		back := slices.Clone(part)
		slices.Reverse(back)
		b := wantBlock(t, append(part, back...), dynamic)
		want := make([]int, 257)
		for _, c := range part {
			want[c] = 7
		}
		want[256] = 7
		if !slices.Equal(b.symbols, want) {
			t.Fatalf("%d lengths side by side: %v", run, b.symbols)
		}
		for _, s := range b.told {
			told[s]++
		}
	}
	for times := 3; times <= 6; times++ {
		if told[[2]int{16, times}] == 0 {
			t.Errorf("a length is never told %d times by 16", times)
		}
	}
}

// The code of lengths has no code of more than 7 bits, even where the shortest one would.
func TestCodeOfLengths(t *testing.T) {
	longer := 0
	for seed := range uint32(60) {
		for _, share := range []uint32{4000, 8000, 12000, 16000} {
			part := uneven(600, share, seed)
			// With two zeros between any two the 0 is wanted so often that the others have long codes.
			for i, c := range part {
				part[i] = min(c, 85) * 3
			}
			counts := make([]int, 19)
			for _, s := range wantBlock(t, part, dynamic).told {
				counts[s[0]]++
			}
			free, e := weigh.Lengths(counts, api.MaxBits)
			if e != api.OK {
				t.Fatalf("Lengths: %v", e)
			}
			if slices.Max(free) > 7 {
				longer++
			}
		}
	}
	if longer == 0 {
		t.Error("the shortest code of lengths has no code of more than 7 bits in any try")
	}
}

// All rows of up to 4 parts, of each kind; a block begins at whichever bit the one ahead ends.
func TestSeveralParts(t *testing.T) {
	contents := [][]byte{nil, []byte("a"), []byte("abcabcabcabc"), {200, 201, 202}, same(0, 40)}
	for many := 1; many <= 4; many++ {
		for which := range int(math.Pow(3, float64(many))) {
			var parts [][]byte
			var kinds []int
			for i := range many {
				parts = append(parts, contents[(which+i)%len(contents)])
				kinds = append(kinds, which%3)
				which /= 3
			}
			wantBlocks(t, parts, kinds)
		}
	}
}

// Blocks end at each of the eight bits of a byte, and another one begins there.
func TestBlocksBeginAnywhere(t *testing.T) {
	ends := map[int]int{}
	for many := range 16 {
		part := slices.Repeat([]byte{250}, many%2)
		part = append(part, spread(many)...)
		for kind := range 3 {
			at := 0
			for _, b := range wantBlocks(t, [][]byte{part, part, part}, []int{fixed, kind, kind}) {
				at += b.size
				ends[at%8]++
			}
		}
	}
	if len(ends) != 8 {
		t.Errorf("blocks end at these bits: %v", ends)
	}
}

func TestPartsOfNoBytes(t *testing.T) {
	for kind := range 3 {
		wantBlock(t, nil, kind)
		wantBlock(t, []byte{}, kind)
		wantBlocks(t, make([][]byte, api.MaxScript), slices.Repeat([]int{kind}, api.MaxScript))
	}
}

func TestMostParts(t *testing.T) {
	for _, kinds := range [][]int{{0}, {1}, {2}, {0, 1, 2}, {2, 1, 0}} {
		var parts, alike [][]byte
		var all []int
		for i := range api.MaxScript {
			parts = append(parts, spread(128)[i:i+api.MaxBytes/api.MaxScript])
			alike = append(alike, noise(api.MaxBytes/api.MaxScript, 2+i*6, uint32(i)))
			all = append(all, kinds[i%len(kinds)])
		}
		wantBlocks(t, parts, all)
		wantBlocks(t, alike, all)
	}
}

func TestBitsOfAllSorts(t *testing.T) {
	for _, many := range []int{1, 2, 3, 10, 75, 100, 255, 256, 257, 1000, 2999, api.MaxBytes} {
		for _, kinds := range []int{1, 2, 3, 5, 17, 100, 144, 256} {
			wantBlockOfEach(t, noise(many, kinds, uint32(many)))
		}
		wantBlockOfEach(t, uneven(many, 20000, 1))
		wantBlockOfEach(t, bytes.Repeat([]byte{0xFF, 0xFE, 0xFD, 0xFC}, many/4))
	}
}

func TestPackForm(t *testing.T) {
	wantError(t, nil, nil, api.ErrForm)
	wantError(t, [][]byte{}, []int{}, api.ErrForm)
	wantError(t, nil, []int{stored}, api.ErrForm)
	wantError(t, [][]byte{nil}, nil, api.ErrForm)
	wantError(t, [][]byte{nil}, []int{fixed, fixed}, api.ErrForm)
	wantError(t, [][]byte{nil, nil}, []int{fixed}, api.ErrForm)
	// It is told ahead of all else.
	wantError(t, [][]byte{nil}, []int{3, 3}, api.ErrForm)
	wantError(t, [][]byte{make([]byte, api.MaxBytes+1)}, nil, api.ErrForm)
	wantError(t, make([][]byte, api.MaxScript+1), make([]int, api.MaxScript), api.ErrForm)
	wantError(t, make([][]byte, api.MaxScript), make([]int, api.MaxScript+1), api.ErrForm)
}

func TestPackMany(t *testing.T) {
	full := make([]byte, api.MaxBytes)
	for kind := range 3 {
		wantBlock(t, full, kind)
		wantError(t, [][]byte{make([]byte, api.MaxBytes+1)}, []int{kind}, api.ErrMany)
		wantBlocks(t, [][]byte{nil, full, nil}, []int{kind, kind, kind})
		wantError(t, [][]byte{full, {1}}, []int{kind, kind}, api.ErrMany)
		wantError(t, [][]byte{{1}, full}, []int{kind, kind}, api.ErrMany)
		wantBlocks(t, [][]byte{full[:1000], full[:1999], {1}}, []int{kind, kind, kind})
		wantError(t, [][]byte{full[:1000], full[:1000], full[:1001]}, []int{kind, kind, kind}, api.ErrMany)
		wantError(t, make([][]byte, api.MaxScript+1), slices.Repeat([]int{kind}, api.MaxScript+1), api.ErrMany)
	}
}

func TestPackRange(t *testing.T) {
	for _, kind := range []int{-1, 3, 4, 256, math.MinInt, math.MaxInt} {
		wantError(t, [][]byte{nil}, []int{kind}, api.ErrRange)
		wantError(t, [][]byte{nil, nil}, []int{fixed, kind}, api.ErrRange)
		wantError(t, [][]byte{nil, nil}, []int{kind, fixed}, api.ErrRange)
	}
}

// Of one part too many bytes are told ahead of its kind; of several parts the first one's error.
func TestPackPartByPart(t *testing.T) {
	great := make([]byte, api.MaxBytes+1)
	wantError(t, [][]byte{great}, []int{3}, api.ErrMany)
	wantError(t, [][]byte{great, nil}, []int{fixed, 3}, api.ErrMany)
	wantError(t, [][]byte{nil, great}, []int{3, fixed}, api.ErrRange)
	wantError(t, [][]byte{great[:3000], nil, {1}}, []int{fixed, 3, fixed}, api.ErrRange)
	wantError(t, [][]byte{great[:3000], {1}, nil}, []int{fixed, fixed, 3}, api.ErrMany)
	kinds := make([]int, api.MaxScript+2)
	wantError(t, make([][]byte, api.MaxScript+2), kinds, api.ErrMany)
	kinds[api.MaxScript] = 3
	wantError(t, make([][]byte, api.MaxScript+2), kinds, api.ErrMany)
	kinds[api.MaxScript-1] = 3
	wantError(t, make([][]byte, api.MaxScript+2), kinds, api.ErrRange)
}

// wantBest: Best must be the first of the shortest rows; how many kinds were as short.
func wantBest(t *testing.T, b []byte) (kind, alike int) {
	t.Helper()
	out, kind, e := packing.Best(b)
	want, wantKind := []byte(nil), 0
	for k := range 3 {
		packed, e := packing.Pack([][]byte{b}, []int{k})
		if e != api.OK {
			t.Fatalf("Pack of %d bytes, kind %d: %v", len(b), k, e)
		}
		switch {
		case want == nil || len(packed) < len(want):
			want, wantKind, alike = packed, k, 1
		case len(packed) == len(want):
			alike++
		}
	}
	if e != api.OK || kind != wantKind || !bytes.Equal(out, want) {
		t.Fatalf("Best of %d bytes: %d bytes, %d %v, want %d bytes, %d", len(b), len(out), kind, e, len(want), wantKind)
	}
	if !bytes.Equal(inflated(t, out), b) {
		t.Fatalf("Best of %q says otherwise", b)
	}
	return kind, alike
}

func TestBest(t *testing.T) {
	for _, b := range [][]byte{nil, {}} {
		out, kind, e := packing.Best(b)
		if !bytes.Equal(out, []byte{3, 0}) || kind != fixed || e != api.OK {
			t.Errorf("Best of nothing: %v %d %v", out, kind, e)
		}
	}
	alike := [3]int{}
	kinds := [3]int{}
	try := func(b []byte) {
		kind, many := wantBest(t, b)
		kinds[kind]++
		if many > 1 {
			alike[kind]++
		}
	}
	for many := range 130 {
		for _, b := range [][]byte{spread(many), noise(many, 256, 1), noise(many, 4, 2), noise(many, 40, 3), same(200, many)} {
			try(b)
		}
		high := noise(many, 64, uint32(many))
		for i := range high {
			high[i] += 160
		}
		try(high)
	}
	for seed := range uint32(40) {
		try(noise(100+int(seed)*70, 256>>(seed%8), seed))
	}
	if slices.Min(kinds[:]) == 0 || alike[stored] == 0 || alike[fixed] == 0 {
		t.Errorf("the tries don't have all: best by kind %v, the first of as short ones %v", kinds, alike)
	}
}

func TestBestMany(t *testing.T) {
	wantBest(t, make([]byte, api.MaxBytes))
	wantBest(t, noise(api.MaxBytes, 256, 5))
	for _, many := range []int{api.MaxBytes + 1, 70000} {
		out, kind, e := packing.Best(make([]byte, many))
		if out != nil || kind != 0 || e != api.ErrMany {
			t.Errorf("Best of %d bytes: %d bytes %d %v", many, len(out), kind, e)
		}
	}
}

func TestWhatIsHandedInStays(t *testing.T) {
	whole := []byte("abcabcabcabcxyzxyz 0123")
	for kind := range 3 {
		part := slices.Clone(whole)
		parts := [][]byte{part[:9], part[3:12], nil, {1}}
		kinds := []int{kind, dynamic, fixed, 7}
		out, e := packing.Pack(parts[:3], kinds[:3])
		if e != api.OK || !bytes.Equal(part, whole) || !slices.Equal(kinds, []int{kind, dynamic, fixed, 7}) || parts[3][0] != 1 {
			t.Errorf("Pack changed what it was given, or its spare room: %v", e)
		}
		for i := range out {
			out[i] = 0xEE
		}
		out = append(out[:0], make([]byte, cap(out))...)
		if len(out) > 0 && !bytes.Equal(part, whole) {
			t.Error("what Pack answers is what it was given")
		}
		best, _, e := packing.Best(part[:4])
		if e != api.OK || !bytes.Equal(part, whole) {
			t.Errorf("Best changed what it was given, or its spare room: %v", e)
		}
		for i := range best {
			best[i] = 0xEE
		}
		if !bytes.Equal(part, whole) {
			t.Error("what Best answers is what it was given")
		}
	}
}

func TestAnswersHangOnArgumentsAlone(t *testing.T) {
	parts := [][]byte{noise(500, 30, 1), nil, noise(500, 256, 2), same(1, 100)}
	kinds := []int{dynamic, fixed, stored, dynamic}
	first, _ := packing.Pack(parts, kinds)
	kept := slices.Clone(first)
	for range 5 {
		again, e := packing.Pack(parts, kinds)
		if e != api.OK || !bytes.Equal(again, kept) {
			t.Fatalf("Pack answers otherwise the second time: %v", e)
		}
		for i := range again {
			again[i]++
		}
	}
	if !bytes.Equal(first, kept) {
		t.Error("two answers share memory")
	}
}
