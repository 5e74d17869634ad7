package zip_test

import (
	"bytes"
	"slices"
	"testing"

	"reliquary/api"
	"reliquary/zip"
)

// roomyBytes: bytes with spare room that isn't empty.
func roomyBytes(b []byte) []byte {
	return append(bytes.Clone(b), "spare room"...)[:len(b)]
}

// roomyFiles: a list with spare room that isn't empty, of files whose bytes have such room.
func roomyFiles(l []api.File) []api.File {
	var out []api.File
	for _, f := range append(slices.Clone(l), put("spare", 1, 1, "spare"), gone("room", 2, 2)) {
		f.Bytes = roomyBytes(f.Bytes)
		out = append(out, f)
	}
	return out[:len(l)]
}

// whole: a list with its spare room, and its files' bytes with theirs.
func whole(l []api.File) []api.File {
	var out []api.File
	for _, f := range l[:cap(l)] {
		f.Bytes = bytes.Clone(f.Bytes[:cap(f.Bytes)])
		out = append(out, f)
	}
	return out
}

// scribble writes over bytes and their spare room.
func scribble(b []byte) {
	b = b[:cap(b)]
	for i := range b {
		b[i] = 255
	}
}

// scribbleFiles writes over all of a list, its spare room, its files' bytes and theirs.
func scribbleFiles(l []api.File) {
	l = l[:cap(l)]
	for i := range l {
		scribble(l[i].Bytes)
		l[i] = put("scribbled", -9, -9, "scribbled")
	}
}

func TestWriteOnlyReads(t *testing.T) {
	for _, l := range append(edges(), fullFiles(0), fullFiles(1), append(three(), put("e", -1, 0, "x"))) {
		l = roomyFiles(l)
		kept := whole(l)
		b, _ := zip.Write(l)
		if !sameFiles(whole(l), kept) {
			t.Errorf("Write changed %s, or its spare room", short(l))
		}
		scribble(b)
		if !sameFiles(whole(l), kept) {
			t.Errorf("Write of %s: the answer shares memory with what was handed in", short(l))
		}
	}
}

func TestReadOnlyReads(t *testing.T) {
	sum := archive(changed(1, func(x *item) { x.sum++ })...)
	right := written(t, three())
	for _, b := range [][]byte{right, sum, right[:len(right)-1], ofNone(), nil, make([]byte, api.MaxArchive+1)} {
		b = roomyBytes(b)
		kept := bytes.Clone(b[:cap(b)])
		l, e := zip.Read(b)
		names, e2 := zip.Names(b)
		if !bytes.Equal(b[:cap(b)], kept) || e != e2 {
			t.Errorf("Read or Names changed what it was given, or its spare room: %v %v", e, e2)
		}
		scribbleFiles(l)
		clear(names[:cap(names)])
		if !bytes.Equal(b[:cap(b)], kept) {
			t.Error("the answer shares memory with what was handed in")
		}
	}
}

// Writing over what was handed in, or over another answer, doesn't reach an answer: nothing of it is kept.
func TestAnswersStayAsTheyWere(t *testing.T) {
	l := roomyFiles(three())
	b, _ := zip.Write(l)
	kept := bytes.Clone(b)
	again, _ := zip.Write(l)
	scribble(again)
	scribbleFiles(l)
	if !bytes.Equal(b, kept) {
		t.Error("Write's answer shares memory")
	}
	files, _ := zip.Read(b)
	names, _ := zip.Names(b)
	others, _ := zip.Read(b)
	scribbleFiles(others)
	scribble(b)
	if !sameFiles(files, three()) || !slices.Equal(names, []string{"a", "b/c", "d"}) {
		t.Errorf("Read's or Names' answer shares memory: %s %q", short(files), names)
	}
}

// The lists of one answer stay apart, with their spare room.
func TestListsOfOneAnswerStayApart(t *testing.T) {
	for _, l := range append(edges(), three()) {
		got, _ := zip.Read(written(t, l))
		for i := range got {
			room := got[i].Bytes[:cap(got[i].Bytes)]
			for k := range room {
				room[k] = byte(i)
			}
		}
		for i, f := range got {
			if !bytes.Equal(f.Bytes, bytes.Repeat([]byte{byte(i)}, len(f.Bytes))) {
				t.Errorf("%s: lists of one answer share memory", short(l))
			}
		}
	}
}

// Neither what was called ahead, nor spare room, nor whether nothing is nil or empty is to be seen in an answer.
func TestAnswersHangOnArgumentsAlone(t *testing.T) {
	l := append(three(), put("e", 1, 1, ""))
	first := written(t, l)
	for _, ahead := range edges() {
		zip.Write(ahead)
		zip.Read(written(t, ahead))
		zip.Read(first[:len(first)-1])
		wantWrite(t, l, first)
		wantWrite(t, roomyFiles(l), first)
		wantRead(t, "again", roomyBytes(first), l)
	}
	none, empty := l[3], l[3]
	none.Bytes, empty.Bytes = nil, []byte{}
	if !bytes.Equal(written(t, []api.File{none}), written(t, []api.File{empty})) {
		t.Error("no Bytes, nil or empty, are written in two ways")
	}
}
