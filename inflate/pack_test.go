package inflate_test

import (
	"bytes"
	"slices"
	"testing"

	"reliquary/api"
	"reliquary/block"
	"reliquary/inflate"
)

// wantParts: Unpack of Pack must be the bytes of all parts, and their kinds; what stands behind is not read.
func wantParts(t *testing.T, parts [][]byte, kinds []int) {
	t.Helper()
	row, e := block.Pack(parts, kinds)
	if e != api.OK {
		t.Fatalf("Pack of %d parts: %v", len(parts), e)
	}
	wantAnswer(t, "Unpack of Pack", row, slices.Concat(parts...), len(row), kinds, api.OK)
	if len(row) < api.MaxPacked {
		wantAnswer(t, "Unpack of Pack, a byte behind it", append(row, 0xA5), slices.Concat(parts...), len(row), kinds, api.OK)
	}
}

func TestUnpackOfPack(t *testing.T) {
	for kind := range 3 {
		for _, many := range []int{0, 1, 2, 3, 4, 10, 75, 255, 256, 257, 1000, 2999, api.MaxBytes} {
			for _, kinds := range []int{1, 2, 3, 10, 100, 256} {
				part := noise(many, kinds, uint32(many+kinds))
				wantParts(t, [][]byte{part}, []int{kind})
				wantParts(t, [][]byte{part[:many/3], part[many/3:], nil}, []int{kind, (kind + 1) % 3, (kind + 2) % 3})
			}
		}
		wantParts(t, [][]byte{bytes.Repeat([]byte("to be or not to be "), 150)}, []int{kind})
	}
}

func TestUnpackOfPackOfAsManyPartsAsMayBe(t *testing.T) {
	for seed := range uint32(60) {
		var parts [][]byte
		var kinds []int
		left := noise(api.MaxBytes, 2+int(seed*5)%255, seed)
		for i := range api.MaxScript {
			many := len(left) / (api.MaxScript - i)
			parts, left = append(parts, left[:many]), left[many:]
			kinds = append(kinds, int(seed+uint32(i)*(seed%4))%3)
		}
		wantParts(t, parts, kinds)
	}
}

func TestUnpackOfBest(t *testing.T) {
	for many := range 200 {
		for _, kinds := range []int{1, 5, 256} {
			b := noise(many*15, kinds, uint32(many))
			row, kind, e := block.Best(b)
			if e != api.OK {
				t.Fatalf("Best: %v", e)
			}
			wantAnswer(t, "Unpack of Best", row, b, len(row), []int{kind}, api.OK)
		}
	}
}

// wantModel: Unpack must answer as the chapter tells it.
func wantModel(t *testing.T, row []byte) api.Errno {
	t.Helper()
	out, used, kinds, e := modelOf(row)
	wantAnswer(t, "held against the chapter", row, out, used, kinds, e)
	if t.Failed() {
		t.Fatalf("the row: %08b", row)
	}
	return e
}

// Rows of all sorts, most of them wrong somewhere.
func TestWhateverIsUnpacked(t *testing.T) {
	errors := map[api.Errno]int{}
	for seed := range uint32(30000) {
		row := noise(int(seed%60), 256, seed*2654435761)
		if len(row) > 0 {
			row[0] = row[0]&^7 | byte(seed%6)
		}
		errors[wantModel(t, row)]++
	}
	for _, e := range []api.Errno{api.OK, api.ErrTorn, api.ErrForm, api.ErrCode, api.ErrFar} {
		if errors[e] == 0 {
			t.Errorf("the tries never have the error %v: %v", e, errors)
		}
	}
}

// Rows that were right, but for a few bits.
func TestWhateverIsTurned(t *testing.T) {
	errors := map[api.Errno]int{}
	for seed := range uint32(6000) {
		x := seed * 2654435761
		part := noise(int(seed%90), 1+int(seed%200), x)
		if seed%30 == 0 {
			part = noise(api.MaxBytes/3, 1+int(seed%7), x)
		}
		row, e := block.Pack([][]byte{part, part, part}, []int{int(seed) % 3, int(seed/3) % 3, int(seed/9) % 3})
		if e != api.OK {
			t.Fatalf("Pack: %v", e)
		}
		errors[wantModel(t, row)]++
		for range 1 + seed%3 {
			x = x*1664525 + 1013904223
			at := int(x>>4) % (8 * len(row))
			row[at/8] ^= 1 << (at % 8)
		}
		errors[wantModel(t, row)]++
		errors[wantModel(t, row[:int(x>>9)%len(row)])]++
	}
	for _, e := range []api.Errno{api.OK, api.ErrMany, api.ErrTorn, api.ErrForm, api.ErrCode, api.ErrFar} {
		if errors[e] == 0 {
			t.Errorf("the tries never have the error %v: %v", e, errors)
		}
	}
}

// As many blocks as may be, of each kind, each with all the codes that its bits can tell: the call must end soon.
func TestManyBlocks(t *testing.T) {
	for kind := range 3 {
		w := &writer{}
		for {
			ahead := len(w.bits)
			switch kind {
			case dynamic:
				w.head(false, dynamic)
				own := lengths(19, map[int]int{16: 1, 8: 2, 9: 2})
				w.counts(257, 1, 7)
				w.own(own, 7)
				w.told(own, append([][2]int{{9}, {9}, {9}, {9}, {8}, {8}}, append(slices.Repeat([][2]int{{16, 3}}, 41), plain([]int{8, 8, 8, 8, 9, 9})...)...)...)
				w.code(append(slices.Repeat([]int{9}, 4), append(slices.Repeat([]int{8}, 252), 9)...), 256)
			default:
				w.as(kind, false)
			}
			if len(w.bits) > 8*api.MaxPacked {
				w.bits = w.bits[:ahead]
				break
			}
		}
		wantModel(t, w.row())
		wantError(t, "no last block", w.row()[:len(w.bits)/8], api.ErrTorn)
	}
}

func TestWhatIsHandedInStays(t *testing.T) {
	for kind := range 3 {
		w := &writer{}
		w.as(kind, false, append(literals('a', 'b', 'c'), api.Token{Same: 20, Far: 3})...)
		w.as(kind, true, literals('d')...)
		many := len(w.row())
		row := append(w.row(), 1, 2, 3, 4, 5, 6, 7, 8)
		kept := slices.Clone(row)
		for _, cut := range []int{many, many - 1} {
			out, _, kinds, _ := inflate.Unpack(row[:cut])
			if !bytes.Equal(row, kept) {
				t.Fatal("Unpack changed what it was given, or its spare room")
			}
			for i := range out[:cap(out)] {
				out[:cap(out)][i] = 0xEE
			}
			for i := range kinds[:cap(kinds)] {
				kinds[:cap(kinds)][i] = -1
			}
			if !bytes.Equal(row, kept) {
				t.Fatal("what Unpack answers is what it was given")
			}
		}
		wantAnswer(t, "once more", row[:many], w.said, many, w.kinds, api.OK)
	}
}

func TestAnswersHangOnArgumentsAlone(t *testing.T) {
	w := &writer{}
	w.fixed(false, literals(noise(300, 256, 5)...)...)
	w.as(dynamic, true, api.Token{Same: 200, Far: 250})
	first, _, kinds, _ := inflate.Unpack(w.row())
	for range 5 {
		// A call that gives up leaves nothing behind.
		wantError(t, "cut", w.row()[:100], api.ErrTorn)
		again, _, _, e := inflate.Unpack(w.row())
		if e != api.OK || !bytes.Equal(again, w.said) {
			t.Fatalf("Unpack answers otherwise the second time: %v", e)
		}
		for i := range again {
			again[i]++
		}
	}
	if !bytes.Equal(first, w.said) || !slices.Equal(kinds, w.kinds) {
		t.Error("two answers share memory")
	}
}
