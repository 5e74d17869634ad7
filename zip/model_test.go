package zip_test

import (
	"bytes"
	"hash/crc32"
	"slices"

	"reliquary/api"
	"reliquary/block"
	"reliquary/inflate"
	"reliquary/merge"
)

// item: an entry, with all numbers that it tells of itself.
type item struct {
	file       api.File
	method     int
	packed     []byte
	sum        uint32
	manyPacked int
	manyBytes  int
	goneByte   int
}

// storedItem: a file's entry, its bytes as they are.
func storedItem(f api.File) item { return packedItem(f, 0, f.Bytes) }

// packedItem: a file's entry, of these packed bytes.
func packedItem(f api.File, method int, packed []byte) item {
	x := item{file: f, method: method, packed: packed, sum: crc32.ChecksumIEEE(f.Bytes)}
	x.manyPacked, x.manyBytes = len(packed), len(f.Bytes)
	if f.Gone {
		x.goneByte = 1
	}
	return x
}

// itemsOf: the entries that Write must have.
func itemsOf(l []api.File) []item {
	var out []item
	for _, f := range l {
		x := storedItem(f)
		if best, _, _ := block.Best(f.Bytes); len(best) < len(f.Bytes) {
			x = packedItem(f, 8, best)
		}
		out = append(out, x)
	}
	return out
}

// le: numbers and how many bytes they are, by turns; the lowest byte first.
func le(l ...int) []byte {
	var out []byte
	for i := 0; i < len(l); i += 2 {
		for n, k := l[i], l[i+1]; k > 0; n, k = n/256, k-1 {
			out = append(out, byte(n%256))
		}
	}
	return out
}

func (x item) middle() []byte {
	return le(20, 2, 0, 2, x.method, 2, 0, 4, int(x.sum), 4, x.manyPacked, 4, x.manyBytes, 4, len(x.file.Name), 2, 11, 2)
}

func (x item) extra() []byte {
	return le(0x7271, 2, 7, 2, x.file.Stamp, 4, x.file.Node, 2, x.goneByte, 1)
}

// first: an entry as the first row has it.
func (x item) first() []byte {
	return slices.Concat(le(0x04034B50, 4), x.middle(), []byte(x.file.Name), x.extra(), x.packed)
}

// second: an entry as the second row has it.
func (x item) second(place int) []byte {
	return slices.Concat(le(0x02014B50, 4, 20, 2), x.middle(), make([]byte, 10), le(place, 4), []byte(x.file.Name), x.extra())
}

// end: the last 22 bytes.
func end(many, again, size, begin int) []byte {
	return le(0x06054B50, 4, 0, 4, many, 2, again, 2, size, 4, begin, 4, 0, 2)
}

// archive of entries, by the chapter's words.
func archive(l ...item) []byte { return rows(l, l) }

// rows: an archive whose rows have these entries; the places are those of the first row, one by one.
func rows(firsts, seconds []item) []byte {
	var first, second []byte
	var places []int
	for _, x := range firsts {
		places = append(places, len(first))
		first = append(first, x.first()...)
	}
	for i, x := range seconds {
		place := 0
		if i < len(places) {
			place = places[i]
		}
		second = append(second, x.second(place)...)
	}
	return slices.Concat(first, second, end(len(seconds), len(seconds), len(second), len(first)))
}

// modelRead: Read by the chapter's words, from the end to the front: what the last bytes say, then both rows side by side.
func modelRead(b []byte) ([]api.File, api.Errno) {
	if len(b) > 12000 {
		return nil, api.ErrMany
	}
	if len(b) < 22 {
		return nil, api.ErrTorn
	}
	tail := b[len(b)-22:]
	many, begin := value(tail, 8, 2), value(tail, 16, 4)
	if begin > len(b)-22 || !bytes.Equal(tail, end(many, many, len(b)-22-begin, begin)) {
		return nil, api.ErrTorn
	}
	first, second := b[:begin], b[begin:len(b)-22]
	var files []api.File
	sums := true
	for range many {
		x, ok := modelEntry(second)
		if !ok {
			return nil, api.ErrTorn
		}
		place := begin - len(first)
		if !bytes.HasPrefix(second, x.second(place)) {
			return nil, api.ErrTorn
		}
		second = second[len(x.second(place)):]
		head := len(x.first())
		if len(first)-head < x.manyPacked || !bytes.HasPrefix(first, x.first()) {
			return nil, api.ErrTorn
		}
		x.packed = first[head : head+x.manyPacked]
		first = first[head+x.manyPacked:]
		f, ok := modelFile(x)
		if !ok {
			return nil, api.ErrTorn
		}
		files = append(files, f)
		sums = sums && crc32.ChecksumIEEE(f.Bytes) == x.sum
	}
	if len(first) > 0 || len(second) > 0 || merge.Check(files) != api.OK {
		return nil, api.ErrTorn
	}
	if !sums {
		return nil, api.ErrSum
	}
	return files, api.OK
}

// value: the number that stands at a place.
func value(b []byte, at, size int) int {
	n := 0
	for i := size - 1; i >= 0; i-- {
		n = n*256 + int(b[at+i])
	}
	return n
}

// modelEntry: what the first entry of a second row tells, without its packed bytes.
func modelEntry(b []byte) (x item, ok bool) {
	if len(b) < 46 {
		return x, false
	}
	named := value(b, 28, 2)
	if len(b) < 46+named+11 {
		return x, false
	}
	x.method, x.sum = value(b, 10, 2), uint32(value(b, 16, 4))
	x.manyPacked, x.manyBytes = value(b, 20, 4), value(b, 24, 4)
	x.file.Name = string(b[46 : 46+named])
	extra := b[46+named:]
	x.file.Stamp, x.file.Node, x.goneByte = value(extra, 4, 4), value(extra, 8, 2), value(extra, 10, 1)
	x.file.Gone = x.goneByte == 1
	return x, x.goneByte < 2
}

// modelFile: an entry's file, if its packed bytes say as many as it tells.
func modelFile(x item) (api.File, bool) {
	f := x.file
	switch x.method {
	case 0:
		f.Bytes = x.packed
	case 8:
		out, used, _, e := inflate.Unpack(x.packed)
		if e != api.OK || used != len(x.packed) {
			return f, false
		}
		f.Bytes = out
	default:
		return f, false
	}
	return f, len(f.Bytes) == x.manyBytes
}
