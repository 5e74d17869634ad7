package shelf_test

import (
	"bytes"
	"fmt"
	"slices"
	"strings"
	"testing"

	"reliquary/api"
	"reliquary/shelf"
	"reliquary/zip"
)

// lists: some that one disk has, one after the other: an older file behind a newer one, one taken away, one that is back.
func lists() [][]api.File {
	return [][]api.File{
		{put("a", 5, 0, "five"), put("b/c", 2, 1, strings.Repeat("hello ", 40))},
		{put("a", 4, 3, "four"), gone("b/c", 3, 0), put("d", 3, 0, "")},
		nil,
		{put("a", 5, 1, "five of 1"), put("b/c", 6, 0, "back"), put("e", 0, 0, string(noise(200, 1)))},
	}
}

// ofNone: the record of no files, typed out.
func ofNone() []byte {
	return []byte{22, 0, 0, 0, 14, 197, 203, 215, 'P', 'K', 5, 6, 0, 0, 0, 0, 0, 0, 0, 0, 0, 0, 0, 0, 0, 0, 0, 0, 0, 0}
}

// ofOne: the record of one file, typed out.
func ofOne() []byte {
	middle := "\x14\x00\x00\x00\x00\x00\x00\x00\x00\x00\x83\x16\xdc\x8c\x01\x00\x00\x00\x01\x00\x00\x00\x01\x00\x0b\x00"
	extra := "\x71\x72\x07\x00\x01\x00\x00\x00\x00\x00\x00"
	return []byte("\x7b\x00\x00\x00\xce\x55\xd1\x68" +
		"PK\x03\x04" + middle + "a" + extra + "x" +
		"PK\x01\x02\x14\x00" + middle + strings.Repeat("\x00", 14) + "a" + extra +
		"PK\x05\x06\x00\x00\x00\x00\x01\x00\x01\x00\x3a\x00\x00\x00\x2b\x00\x00\x00\x00\x00")
}

func TestRecordsByHand(t *testing.T) {
	one := []api.File{put("a", 1, 0, "x")}
	d, e := shelf.Add(api.Disk{}, nil)
	wantDisk(t, "no files", d, e, api.Disk{Wait: ofNone()})
	d, e = shelf.Add(d, one)
	wantDisk(t, "one file", d, e, api.Disk{Wait: slices.Concat(ofNone(), ofOne())})
	d, e = shelf.Flush(d)
	wantDisk(t, "all safe", d, e, api.Disk{Safe: slices.Concat(ofNone(), ofOne())})
	d, e = shelf.Add(d, []api.File{})
	wantDisk(t, "no files, once more", d, e, api.Disk{Safe: slices.Concat(ofNone(), ofOne()), Wait: ofNone()})
	wantFiles(t, "one file", d, one)
	d, e = shelf.Pack(d)
	wantDisk(t, "packed", d, e, api.Disk{Safe: ofOne()})
	wantRecovered(t, "none and one", slices.Concat(ofNone(), ofOne()), 30+131)
	wantRecovered(t, "one and a piece", slices.Concat(ofOne(), ofNone()[:29]), 131)
}

func TestNothing(t *testing.T) {
	for _, d := range []api.Disk{{}, {Safe: []byte{}, Wait: []byte{}}} {
		wantFiles(t, "nothing", d, nil)
		wantRecovered(t, "nothing", d.Safe, 0)
		got, e := shelf.Flush(d)
		wantDisk(t, "flushed", got, e, api.Disk{})
		got, lost, e := shelf.Cut(d, 0)
		wantDisk(t, "cut", got, e, api.Disk{})
		if lost != 0 {
			t.Errorf("%d lost of nothing", lost)
		}
		got, e = shelf.Pack(d)
		wantDisk(t, "packed", got, e, api.Disk{Safe: ofNone()})
	}
}

// Step by step a disk has what the lists make together, and its bytes are their records.
func TestAddAndFlush(t *testing.T) {
	l := lists()
	for safe := range len(l) + 1 {
		d, e := api.Disk{}, api.OK
		for i := range l {
			d, e = shelf.Add(d, l[i])
			want := api.Disk{Safe: recs(t, l[:min(i, safe)]...), Wait: recs(t, l[min(i, safe):i+1]...)}
			wantDisk(t, "added", d, e, want)
			wantFiles(t, "added", d, allTogether(l[:i+1]...))
			if i < safe {
				d, e = shelf.Flush(d)
				wantDisk(t, "flushed", d, e, api.Disk{Safe: recs(t, l[:i+1]...)})
				wantFiles(t, "flushed", d, allTogether(l[:i+1]...))
			}
		}
	}
	all := allTogether(l...)
	want := []api.File{put("a", 5, 1, "five of 1"), put("b/c", 6, 0, "back"), put("d", 3, 0, ""), put("e", 0, 0, string(noise(200, 1)))}
	if !sameFiles(all, want) {
		t.Errorf("the lists make %s together, want %s", short(all), short(want))
	}
}

func TestFlushOfSeveral(t *testing.T) {
	l := lists()
	for safe := range len(l) + 1 {
		d := api.Disk{Safe: recs(t, l[:safe]...), Wait: recs(t, l[safe:]...)}
		got, e := shelf.Flush(d)
		wantDisk(t, "flushed", got, e, api.Disk{Safe: recs(t, l...)})
		again, e := shelf.Flush(got)
		wantDisk(t, "flushed twice", again, e, got)
	}
}

func TestPack(t *testing.T) {
	l := lists()
	for many := range len(l) + 1 {
		want := allTogether(l[:many]...)
		for safe := range many + 1 {
			d := api.Disk{Safe: recs(t, l[:safe]...), Wait: recs(t, l[safe:many]...)}
			got, e := shelf.Pack(d)
			wantDisk(t, "packed", got, e, api.Disk{Safe: recs(t, want)})
			wantFiles(t, "packed", got, want)
			again, e := shelf.Pack(got)
			wantDisk(t, "packed twice", again, e, got)
		}
	}
}

// noisy: one file that takes so many bytes of a disk.
func noisy(size, stamp int) []api.File {
	return []api.File{{Name: "a", Stamp: stamp, Bytes: noise(size-130, uint32(stamp))}}
}

// nearlyFull: lists whose records have so many bytes: twelve as great as one file makes them, and one.
func nearlyFull(size int) [][]api.File {
	var out [][]api.File
	for i := range 12 {
		out = append(out, noisy(130+api.MaxBytes, i))
	}
	return append(out, noisy(size-12*(130+api.MaxBytes), 12))
}

func TestFull(t *testing.T) {
	for _, size := range []int{39999, 40000} {
		l := nearlyFull(size)
		b := recs(t, l...)
		if len(b) != size {
			t.Fatalf("%d bytes, want %d", len(b), size)
		}
		wantRecovered(t, "full", b, size)
		for _, many := range []int{0, 1, 6, 12, 13} {
			safe := len(recs(t, l[:many]...))
			d := api.Disk{Safe: b[:safe], Wait: b[safe:]}
			wantFiles(t, "full", d, l[12])
			got, e := shelf.Flush(d)
			wantDisk(t, "full, flushed", got, e, api.Disk{Safe: b})
			got, e = shelf.Pack(d)
			wantDisk(t, "full, packed", got, e, api.Disk{Safe: recs(t, l[12])})
			got, e = shelf.Add(d, nil)
			wantNoDisk(t, "full, added", got, e, api.ErrFull)
		}
	}
}

func TestAddUpToFull(t *testing.T) {
	for _, safe := range []int{0, 3, 12} {
		for more := -2; more <= 2; more++ {
			l := nearlyFull(40000 + more)
			d := api.Disk{Safe: recs(t, l[:safe]...), Wait: recs(t, l[safe:12]...)}
			got, e := shelf.Add(d, l[12])
			if more > 0 {
				wantNoDisk(t, fmt.Sprint(more, " more than full"), got, e, api.ErrFull)
			} else {
				wantDisk(t, fmt.Sprint(more, " up to full"), got, e, api.Disk{Safe: d.Safe, Wait: recs(t, l[safe:]...)})
			}
		}
	}
	for _, size := range []int{39969, 39970, 39971, 39972} {
		d := api.Disk{Safe: recs(t, nearlyFull(size)...)}
		got, e := shelf.Add(d, nil)
		if size > 39970 {
			wantNoDisk(t, "no room for a record of no files", got, e, api.ErrFull)
		} else {
			wantDisk(t, "room for a record of no files", got, e, api.Disk{Safe: d.Safe, Wait: ofNone()})
		}
	}
}

// greatFiles: files, the first one by a name, whose archive has api.MaxArchive bytes, and so many more.
func greatFiles(first byte, more int) []api.File {
	var l []api.File
	left := api.MaxArchive + more - 22 - 4*100
	for i := range 4 {
		many := min(left, api.MaxBytes)
		l = append(l, put(string(first+byte(i)), 1, 0, string(noise(many, uint32(first)+uint32(i)))))
		left -= many
	}
	return l
}

func TestGreatArchives(t *testing.T) {
	l := greatFiles('a', 0)
	if archive, e := zip.Write(l); len(archive) != api.MaxArchive || e != api.OK {
		t.Fatalf("an archive of %d bytes, %v", len(archive), e)
	}
	d, e := shelf.Add(api.Disk{}, l)
	wantDisk(t, "great", d, e, api.Disk{Wait: recs(t, l)})
	packed, e := shelf.Pack(d)
	wantDisk(t, "great, packed", packed, e, api.Disk{Safe: d.Wait})
	got, e := shelf.Add(d, greatFiles('a', 1))
	wantNoDisk(t, "greater than an archive may be", got, e, api.ErrFull)

	// Together they are more than an archive has room for.
	d, e = shelf.Add(d, greatFiles('e', 0))
	wantDisk(t, "twice great", d, e, api.Disk{Wait: recs(t, l, greatFiles('e', 0))})
	wantFiles(t, "twice great", d, append(l, greatFiles('e', 0)...))
	got, e = shelf.Pack(d)
	wantNoDisk(t, "twice great, packed", got, e, api.ErrFull)
	d, e = shelf.Add(packed, []api.File{put("e", 1, 0, "")})
	wantDisk(t, "great, and a little", d, e, api.Disk{Safe: packed.Safe, Wait: recs(t, []api.File{put("e", 1, 0, "")})})
	got, e = shelf.Pack(d)
	wantNoDisk(t, "great, and a little, packed", got, e, api.ErrFull)
}

// many: so many files, from a letter on.
func many(first byte, n int) []api.File {
	var l []api.File
	for i := range n {
		l = append(l, put(string(first+byte(i)), 1, 0, "x"))
	}
	return l
}

func TestTwelveFiles(t *testing.T) {
	d := api.Disk{Safe: recs(t, many('a', 7)), Wait: recs(t, many('g', 6))}
	wantFiles(t, "twelve", d, many('a', 12))
	for _, l := range [][]api.File{{put("m", 1, 0, "x")}, {gone("m", 1, 0)}, {put("A", 1, 0, "x")}, many('b', 12)} {
		got, e := shelf.Add(d, l)
		wantNoDisk(t, "a thirteenth", got, e, api.ErrFull)
	}
	for _, l := range [][]api.File{nil, many('a', 12), {put("c", 2, 0, "y")}, {gone("l", 0, 0)}} {
		got, e := shelf.Add(d, l)
		wantDisk(t, "no thirteenth", got, e, api.Disk{Safe: d.Safe, Wait: slices.Concat(d.Wait, recs(t, l))})
	}
	b := slices.Concat(d.Safe, d.Wait)
	wantRecovered(t, "a thirteenth", slices.Concat(b, recs(t, many('m', 1), many('a', 1))), len(b))
	wantRecovered(t, "no thirteenth", slices.Concat(b, recs(t, many('a', 12))), len(b)+len(recs(t, many('a', 12))))
	wantRefused(t, "thirteen", api.Disk{Safe: d.Safe, Wait: recs(t, many('h', 6))}, api.ErrTorn)
}

// storedRecord: a record whose archive has a file as it is, even where packed it would be shorter.
func storedRecord(t *testing.T, f api.File) []byte {
	t.Helper()
	// A file of noise stands as it is; its bytes and their sum are put in another's place.
	like := f
	like.Bytes = noise(len(f.Bytes), 9)
	archive, _ := zip.Write([]api.File{like})
	archive = bytes.ReplaceAll(archive, like.Bytes, f.Bytes)
	archive = bytes.ReplaceAll(archive, sumOf(like.Bytes), sumOf(f.Bytes))
	if l, e := zip.Read(archive); e != api.OK || !sameFiles(l, []api.File{f}) {
		t.Fatalf("an archive of %s reads %s, %v", short([]api.File{f}), short(l), e)
	}
	return rec(archive)
}

// What another packing wrote stays as it is, until it is packed anew.
func TestAnotherPacking(t *testing.T) {
	f := put("a", 1, 0, strings.Repeat("hello ", 40))
	b := storedRecord(t, f)
	shorter := recs(t, []api.File{f})
	if len(b) <= len(shorter) {
		t.Fatalf("stored %d bytes, packed %d", len(b), len(shorter))
	}
	wantRecovered(t, "stored", b, len(b))
	d, e := shelf.Flush(api.Disk{Wait: b})
	wantDisk(t, "stored, flushed", d, e, api.Disk{Safe: b})
	wantFiles(t, "stored", d, []api.File{f})
	d, e = shelf.Pack(d)
	wantDisk(t, "stored, packed", d, e, api.Disk{Safe: shorter})
}
