package zip_test

import (
	"bytes"
	"compress/flate"
	"slices"
	"strings"
	"testing"

	"reliquary/api"
	"reliquary/block"
	"reliquary/inflate"
	"reliquary/zip"
)

// three: files of all sorts: as they are, packed, gone.
func three() []api.File {
	return []api.File{put("a", 3, 0, "xy"), put("b/c", 4, 2, strings.Repeat("hello ", 9)), gone("d", 5, 3)}
}

// changed: three's entries, one of which is changed.
func changed(i int, change func(*item)) []item {
	l := itemsOf(three())
	change(&l[i])
	return l
}

// wantAsModel: Read must answer what the chapter's words say.
func wantAsModel(t *testing.T, what string, b []byte) api.Errno {
	t.Helper()
	want, e := modelRead(b)
	if e == api.OK {
		wantRead(t, what, b, want)
	} else {
		wantError(t, what, b, e)
	}
	return e
}

func TestTooManyBytes(t *testing.T) {
	for _, many := range []int{api.MaxArchive + 1, api.MaxArchive + 2, 10 * api.MaxArchive} {
		wantError(t, "zeros", make([]byte, many), api.ErrMany)
		wantError(t, "an archive, and more", append(archive(itemsOf(three())...), make([]byte, many)...), api.ErrMany)
	}
	wantError(t, "zeros", make([]byte, api.MaxArchive), api.ErrTorn)
	full := archive(changed(0, func(x *item) { x.sum++ })...)
	wantError(t, "a sum, in too many", slices.Concat(full, make([]byte, api.MaxArchive+1-len(full))), api.ErrMany)
}

func TestCutAnywhere(t *testing.T) {
	b := written(t, three())
	for n := range b {
		wantError(t, "cut behind", b[:n], api.ErrTorn)
		wantError(t, "cut ahead", b[n+1:], api.ErrTorn)
		wantError(t, "without a byte", slices.Delete(bytes.Clone(b), n, n+1), api.ErrTorn)
	}
}

func TestOneByteMore(t *testing.T) {
	for _, b := range [][]byte{ofNone(), written(t, three())} {
		for n := range len(b) + 1 {
			for _, x := range []byte{0, 1, 'P', 255} {
				wantAsModel(t, "one byte more", slices.Insert(bytes.Clone(b), n, x))
			}
		}
		wantError(t, "a byte behind", append(bytes.Clone(b), 0), api.ErrTorn)
		wantError(t, "a byte ahead", append([]byte{0}, b...), api.ErrTorn)
		wantError(t, "twice", slices.Concat(b, b), api.ErrTorn)
	}
}

// otherBytes: those that differ in one bit, by one, or are at an edge.
func otherBytes(b byte) []byte {
	l := []byte{0, 1, 8, 255, b + 1, b - 1}
	for bit := range 8 {
		l = append(l, b^1<<bit)
	}
	return slices.DeleteFunc(l, func(x byte) bool { return x == b })
}

// Each byte changed: only in packed bytes may that be a sum that isn't right.
func TestEachByteChanged(t *testing.T) {
	for _, l := range [][]api.File{nil, three(), {put("a", 1, 1, "x"), put("b", 1, 1, "aaaaa")}} {
		b := written(t, l)
		packed := packedPlaces(itemsOf(l))
		for i := range b {
			for _, x := range otherBytes(b[i]) {
				c := bytes.Clone(b)
				c[i] = x
				e := wantAsModel(t, "changed", c)
				if e != api.ErrTorn && !slices.Contains(packed, i) {
					t.Errorf("%s: byte %d as %d: %v", short(l), i, x, e)
				}
			}
		}
	}
}

// packedPlaces: at which places of an archive packed bytes stand.
func packedPlaces(l []item) []int {
	var places []int
	at := 0
	for _, x := range l {
		at += len(x.first())
		for i := range x.packed {
			places = append(places, at-len(x.packed)+i)
		}
	}
	return places
}

// changes: ways to change an entry of one row, so that the two rows no longer say the same.
func changes() map[string]func(*item) {
	return map[string]func(*item){
		"Name":         func(x *item) { x.file.Name = "b-c" },
		"longer Name":  func(x *item) { x.file.Name += "c" },
		"shorter Name": func(x *item) { x.file.Name = "b" },
		"Stamp":        func(x *item) { x.file.Stamp++ },
		"Node":         func(x *item) { x.file.Node = 1 },
		"Gone":         func(x *item) { x.goneByte = 1 - x.goneByte },
		"method":       func(x *item) { x.method = 8 - x.method },
		"sum":          func(x *item) { x.sum ^= 1 << 31 },
		"packed, more": func(x *item) { x.manyPacked++ },
		"packed, less": func(x *item) { x.manyPacked-- },
		"Bytes, more":  func(x *item) { x.manyBytes++ },
		"Bytes, less":  func(x *item) { x.manyBytes-- },
		"Bytes, far":   func(x *item) { x.manyBytes += 1 << 24 },
	}
}

func TestRowsThatSayDifferentThings(t *testing.T) {
	right := itemsOf(three())
	for what, change := range changes() {
		l := changed(1, change)
		wantError(t, "the second row's "+what, rows(right, l), api.ErrTorn)
		wantError(t, "the first row's "+what, rows(l, right), api.ErrTorn)
	}
}

// What an entry tells of its packed bytes must be so, even if both rows say the same.
func TestNumbersOfBytesThatAreNotThere(t *testing.T) {
	for i := range 3 {
		for _, many := range []int{-1, 1, 2, 256, 1 << 16, 1 << 24, 1<<32 - 1000} {
			wantError(t, "packed", archive(changed(i, func(x *item) { x.manyPacked += many })...), api.ErrTorn)
			wantError(t, "Bytes", archive(changed(i, func(x *item) { x.manyBytes += many })...), api.ErrTorn)
			both := func(x *item) { x.manyPacked, x.manyBytes = x.manyPacked+many, x.manyBytes+many }
			wantError(t, "both", archive(changed(i, both)...), api.ErrTorn)
		}
	}
}

func TestAnotherOrder(t *testing.T) {
	l := itemsOf(three())
	for _, other := range [][]int{{1, 0, 2}, {0, 2, 1}, {2, 1, 0}, {1, 2, 0}, {0, 0, 2}} {
		turned := []item{l[other[0]], l[other[1]], l[other[2]]}
		wantError(t, "the first row", rows(turned, l), api.ErrTorn)
		wantError(t, "the second row", rows(l, turned), api.ErrTorn)
		wantError(t, "both rows", archive(turned...), api.ErrTorn)
		// Each with the place at which it stands.
		var second []byte
		places := placesOf(l)
		for _, i := range other {
			second = append(second, l[i].second(places[i])...)
		}
		wantError(t, "the second row, with its places", slices.Concat(firsts(l), second, end(3, 3, len(second), len(firsts(l)))), api.ErrTorn)
	}
}

// firsts: the first row.
func firsts(l []item) []byte {
	var b []byte
	for _, x := range l {
		b = append(b, x.first()...)
	}
	return b
}

// placesOf: where each entry stands in the first row.
func placesOf(l []item) []int {
	var places []int
	for i := range l {
		places = append(places, len(firsts(l[:i])))
	}
	return places
}

// seconds: the second row, with these places.
func seconds(l []item, places []int) []byte {
	var b []byte
	for i, x := range l {
		b = append(b, x.second(places[i])...)
	}
	return b
}

func TestPlacesThatAreNotWhereTheyStand(t *testing.T) {
	l := itemsOf(three())
	first := firsts(l)
	for i := range l {
		for _, place := range []int{0, 1, len(first), len(first) - 1, 1 << 16, 1 << 31, 1<<32 - 1} {
			for _, more := range []int{0, placesOf(l)[i]} {
				places := placesOf(l)
				places[i] = (place + more) % (1 << 32)
				second := seconds(l, places)
				wantAsModel(t, "places", slices.Concat(first, second, end(3, 3, len(second), len(first))))
			}
		}
		for k := range l {
			places := placesOf(l)
			places[i], places[k] = places[k], places[i]
			second := seconds(l, places)
			b := slices.Concat(first, second, end(3, 3, len(second), len(first)))
			if e := wantAsModel(t, "places that are swapped", b); (e == api.OK) != (i == k) {
				t.Errorf("%d and %d swapped: %v", i, k, e)
			}
		}
	}
}

// Gaps, between what stands there and behind it; the numbers go along with them, or don't.
func TestGaps(t *testing.T) {
	l := itemsOf(three())
	for _, gap := range [][]byte{{0}, {0, 0, 0, 0}, []byte("PK\x03\x04"), []byte("PK\x01\x02"), []byte("PK\x05\x06"), ofNone(), l[0].first()} {
		for i := range len(l) + 1 {
			first := slices.Concat(firsts(l[:i]), gap, firsts(l[i:]))
			places := placesOf(l)
			still := seconds(l, places)
			for k := i; k < len(l); k++ {
				places[k] += len(gap)
			}
			along := seconds(l, places)
			wantError(t, "in the first row", slices.Concat(first, along, end(3, 3, len(along), len(first))), api.ErrTorn)
			wantError(t, "in the first row, places as ahead", slices.Concat(first, still, end(3, 3, len(still), len(first))), api.ErrTorn)
			wantError(t, "between the rows", slices.Concat(first, along, end(3, 3, len(along)+len(gap), len(first)-len(gap))), api.ErrTorn)

			cut := len(seconds(l[:i], placesOf(l)))
			second := slices.Concat(still[:cut], gap, still[cut:])
			wantError(t, "in the second row", slices.Concat(firsts(l), second, end(3, 3, len(second), len(firsts(l)))), api.ErrTorn)
			wantError(t, "in the second row, not told", slices.Concat(firsts(l), second, end(3, 3, len(still), len(firsts(l)))), api.ErrTorn)
		}
		wantError(t, "behind all", slices.Concat(archive(l...), gap), api.ErrTorn)
	}
}

func TestAnotherCount(t *testing.T) {
	l := itemsOf(three())
	first, second := firsts(l), seconds(l, placesOf(l))
	for _, many := range []int{0, 1, 2, 4, 255, 256, 259, 65535} {
		ends := [][]byte{
			end(many, many, len(second), len(first)), end(3, many, len(second), len(first)), end(many, 3, len(second), len(first)),
		}
		for _, e := range ends {
			wantError(t, "how many entries", slices.Concat(first, second, e), api.ErrTorn)
		}
	}
	for _, n := range []int{-100, -1, 1, 256, 1 << 24} {
		wantError(t, "how many bytes", slices.Concat(first, second, end(3, 3, len(second)+n, len(first))), api.ErrTorn)
		wantError(t, "where it begins", slices.Concat(first, second, end(3, 3, len(second), len(first)+n)), api.ErrTorn)
		wantError(t, "both", slices.Concat(first, second, end(3, 3, len(second)-n, len(first)+n)), api.ErrTorn)
	}
	for i := range l {
		wantError(t, "fewer in the second row", rows(l, l[:i]), api.ErrTorn)
		wantError(t, "fewer in the first row", rows(l[:i], l), api.ErrTorn)
		wantRead(t, "fewer in both", rows(l[:i], l[:i]), three()[:i])
	}
}

func TestNoSuchMethod(t *testing.T) {
	for _, method := range []int{1, 2, 3, 4, 5, 6, 7, 9, 12, 14, 93, 99, 255, 256, 264, 8 << 8, 65535} {
		for i := range 3 {
			wantError(t, "method", archive(changed(i, func(x *item) { x.method = method })...), api.ErrTorn)
		}
	}
}

// deflatedBy: packed by the library, by which another packing comes out.
func deflatedBy(level int, b []byte) []byte {
	var out bytes.Buffer
	w, err := flate.NewWriter(&out, level)
	if err != nil {
		panic(err)
	}
	w.Write(b)
	w.Close()
	return out.Bytes()
}

// otherPackings: several that say the same, of each kind, shorter and longer.
func otherPackings(b []byte) [][]byte {
	var out [][]byte
	for _, level := range []int{flate.HuffmanOnly, flate.NoCompression, flate.BestSpeed, flate.BestCompression} {
		out = append(out, deflatedBy(level, b))
	}
	for kind := range 3 {
		one, _ := block.Pack([][]byte{b}, []int{kind})
		several, _ := block.Pack([][]byte{nil, b[:len(b)/2], b[len(b)/2:], nil}, []int{kind, 2 - kind, kind, 0})
		out = append(out, one, several)
	}
	return out
}

func TestOtherPackingsAreRead(t *testing.T) {
	for _, text := range []string{"", "a", "aaaa", "aaaaa", strings.Repeat("hello ", 60), string(noise(500, 256, 1)), string(noise(api.MaxBytes, 3, 1))} {
		f := put("b", 1, 1, text)
		l := []api.File{put("a", 1, 1, "x"), f, gone("c", 1, 1)}
		for _, packed := range otherPackings(f.Bytes) {
			wantRead(t, "another packing", archive(storedItem(l[0]), packedItem(f, 8, packed), storedItem(l[2])), l)
		}
		wantRead(t, "as it is", archive(storedItem(l[0]), storedItem(f), storedItem(l[2])), l)
	}
	wantRead(t, "gone, packed", archive(packedItem(gone("c", 1, 1), 8, []byte{3, 0})), []api.File{gone("c", 1, 1)})
}

func TestPackedBytesThatDoNotUnpack(t *testing.T) {
	f := put("b", 1, 1, strings.Repeat("hello ", 9))
	best, _, _ := block.Best(f.Bytes)
	for _, packed := range [][]byte{nil, {}, {0}, {7}, {1, 0, 0}, {1, 1, 0, 0, 0, 'x'}, best[:len(best)-1], best[1:], {0x4B, 4, 2, 0}, {3, 1}} {
		wantError(t, "doesn't unpack", archive(packedItem(f, 8, packed)), api.ErrTorn)
		x := packedItem(f, 8, packed)
		x.manyBytes = 0
		wantAsModel(t, "doesn't unpack, told as nothing", archive(x))
	}
	for _, more := range [][]byte{{0}, {255}, {3, 0}, best} {
		wantError(t, "not all used", archive(packedItem(f, 8, slices.Concat(best, more))), api.ErrTorn)
	}
}

func TestPackedBytesThatUnpackIntoOthers(t *testing.T) {
	f, other := put("b", 1, 1, "aaaaaaaaaa"), []byte("bbbbbbbbbb")
	for _, packed := range otherPackings(other) {
		wantError(t, "as many others", archive(packedItem(f, 8, packed)), api.ErrSum)
	}
	for _, packed := range slices.Concat(otherPackings(f.Bytes[:9]), otherPackings(append(f.Bytes, 'a'))) {
		x := packedItem(f, 8, packed)
		wantError(t, "more or fewer", archive(x), api.ErrTorn)
		x.sum++
		wantError(t, "more or fewer, and the sum", archive(x), api.ErrTorn)
	}
}

// empties: so many packed bytes that say nothing.
func empties(many int) []byte {
	return append(bytes.Repeat([]byte{0, 0, 0, 255, 255}, many/5-1), 1, 0, 0, 255, 255)
}

func TestMoreThanUnpackTakes(t *testing.T) {
	wantRead(t, "just as many", archive(packedItem(put("a", 0, 0, ""), 8, empties(api.MaxPacked))), []api.File{put("a", 0, 0, "")})
	wantError(t, "more", archive(packedItem(put("a", 0, 0, ""), 8, empties(api.MaxPacked+5))), api.ErrTorn)
	for _, many := range []int{api.MaxBytes + 1, api.MaxBytes + 2, 2 * api.MaxBytes} {
		f := put("a", 0, 0, strings.Repeat("a", many))
		packed := deflatedBy(flate.BestCompression, f.Bytes)
		if _, _, _, e := inflate.Unpack(packed); e != api.ErrMany {
			t.Fatalf("Unpack: %v", e)
		}
		wantError(t, "more Bytes, packed", archive(packedItem(f, 8, packed)), api.ErrTorn)
		wantError(t, "more Bytes", archive(storedItem(f)), api.ErrTorn)
	}
}

func TestFilesThatCheckDoesNotTake(t *testing.T) {
	var thirteen []item
	for i := range api.MaxFiles + 1 {
		thirteen = append(thirteen, storedItem(put(string(rune('a'+i)), 1, 1, "x")))
	}
	wantError(t, "thirteen", archive(thirteen...), api.ErrTorn)
	if got, e := zip.Read(archive(thirteen[1:]...)); len(got) != api.MaxFiles || e != api.OK {
		t.Errorf("twelve: %s %v", short(got), e)
	}
	for _, name := range []string{"", "/", "a/", "/a", "a//b", ".", "..", "a/../b", "a b", "\x00", "ä", strings.Repeat("n", api.MaxName+1), strings.Repeat("n", 5900)} {
		wantError(t, "a name", archive(storedItem(put(name, 1, 1, "x"))), api.ErrTorn)
	}
	for _, stamp := range []int{api.MaxStamp + 1, 1 << 24, 1<<31 - 1, 1 << 31, 1<<32 - 1} {
		wantError(t, "a Stamp", archive(storedItem(put("a", stamp, 1, "x"))), api.ErrTorn)
	}
	for _, node := range []int{api.MaxNodes, 255, 256, 32768, 65535} {
		wantError(t, "a Node", archive(storedItem(put("a", 1, node, "x"))), api.ErrTorn)
	}
	f := put("a", 1, 1, "aaaaa")
	for _, x := range []item{storedItem(f), packedItem(f, 8, []byte{0x4B, 4, 1, 0})} {
		wantRead(t, "not gone", archive(x), []api.File{x.file})
		x.goneByte = 1
		wantError(t, "Gone, with Bytes", archive(x), api.ErrTorn)
	}
	for _, pair := range [][2]string{{"a", "a"}, {"b", "a"}, {"a/b", "a.b"}, {"ab", "a"}, {"a", "B"}} {
		wantError(t, "names that don't rise", archive(storedItem(put(pair[0], 1, 1, "x")), storedItem(put(pair[1], 1, 1, "y"))), api.ErrTorn)
	}
}

func TestNeitherGoneNorNot(t *testing.T) {
	for n := 2; n < 256; n++ {
		wantError(t, "Gone", archive(changed(2, func(x *item) { x.goneByte = n })...), api.ErrTorn)
		wantError(t, "not Gone", archive(changed(0, func(x *item) { x.goneByte = n })...), api.ErrTorn)
	}
}

func TestSumsThatAreNotTheCRC(t *testing.T) {
	for i := range 3 {
		for bit := range 32 {
			wantError(t, "a sum", archive(changed(i, func(x *item) { x.sum ^= 1 << bit })...), api.ErrSum)
		}
	}
	all := itemsOf(three())
	for i := range all {
		all[i].sum++
	}
	wantError(t, "all sums", archive(all...), api.ErrSum)
}

// What makes it no archive is told first, wherever it stands: ahead of the sum, or behind it.
func TestTornIsToldAheadOfSums(t *testing.T) {
	for i := range 3 {
		for k := range 3 {
			l := changed(i, func(x *item) { x.sum++ })
			for _, change := range []func(*item){
				func(x *item) { x.method = 1 }, func(x *item) { x.manyBytes++ }, func(x *item) { x.file.Stamp = api.MaxStamp + 1 },
				func(x *item) { x.file.Name = "" }, func(x *item) { x.goneByte = 2 }, func(x *item) { x.file.Node = api.MaxNodes },
			} {
				worse := slices.Clone(l)
				change(&worse[k])
				wantError(t, "a sum, and an entry", archive(worse...), api.ErrTorn)
			}
		}
		b := archive(changed(i, func(x *item) { x.sum++ })...)
		wantError(t, "a sum, and cut", b[:len(b)-1], api.ErrTorn)
		wantError(t, "a sum, and more", append(b, 0), api.ErrTorn)
		wantError(t, "a sum of one row alone", rows(changed(i, func(x *item) { x.sum++ }), itemsOf(three())), api.ErrTorn)
		wantError(t, "a sum of one row alone", rows(itemsOf(three()), changed(i, func(x *item) { x.sum++ })), api.ErrTorn)
	}
}

// Several bytes changed at once, in one place or in both rows alike, against the chapter's words.
func TestManyChanges(t *testing.T) {
	s := source(3)
	seen := map[api.Errno]int{}
	for range 1500 {
		l := itemsOf(s.someFiles())
		for range s.next(3) {
			if len(l) > 0 {
				s.change(&l[s.next(len(l))])
			}
		}
		b := archive(l...)
		if s.next(3) == 0 {
			for range 1 + s.next(3) {
				b[s.next(len(b))] = byte(s.next(256))
			}
		}
		seen[wantAsModel(t, "changed", b)]++
	}
	for _, e := range []api.Errno{api.OK, api.ErrTorn, api.ErrSum} {
		if seen[e] < 100 {
			t.Errorf("too few of %v: %v", e, seen)
		}
	}
}

// change: something of an entry, in both rows alike.
func (s *source) change(x *item) {
	switch s.next(9) {
	case 0:
		x.sum ^= 1 << s.next(32)
	case 1:
		x.method = []int{0, 8, 1, 264}[s.next(4)]
	case 2:
		x.manyBytes += s.next(3) - 1
	case 3:
		x.manyPacked += s.next(3) - 1
	case 4:
		x.goneByte = s.next(3)
	case 5:
		x.file.Stamp = s.next(2*api.MaxStamp + 1)
	case 6:
		x.file.Node = s.next(api.MaxNodes + 2)
	case 7:
		x.packed = append(x.packed[:len(x.packed):len(x.packed)], byte(s.next(256)))
		x.manyPacked = len(x.packed)
	case 8:
		if len(x.packed) > 0 {
			x.packed = bytes.Clone(x.packed)
			x.packed[s.next(len(x.packed))] ^= byte(1 << s.next(8))
		}
	}
}

// Rows that are no archives at all, some of them beginning like one.
func TestAnyRows(t *testing.T) {
	s := source(9)
	marks := []string{"PK\x03\x04", "PK\x01\x02", "PK\x05\x06", "\x14\x00", "\x0b\x00", "qr\x07\x00", "\x00\x00\x00\x00"}
	for range 3000 {
		var b []byte
		for range s.next(30) {
			if s.next(2) == 0 {
				b = append(b, marks[s.next(len(marks))]...)
			} else {
				b = append(b, noise(s.next(12), 1+s.next(256), uint32(s.next(1000)))...)
			}
		}
		wantAsModel(t, "any row", b)
	}
}
