package shelf_test

import (
	"bytes"
	"encoding/binary"
	"fmt"
	"hash/crc32"
	"slices"
	"strings"
	"testing"

	"reliquary/api"
	"reliquary/shelf"
	"reliquary/zip"
)

// source: numbers that look as if by chance, always the same.
type source uint32

func (s *source) next(n int) int {
	*s = *s*1664525 + 1013904223
	return int(*s>>8) % n
}

// noise: bytes that nothing packs.
func noise(many int, seed uint32) []byte {
	b := make([]byte, many)
	s := source(seed)
	for i := range b {
		b[i] = byte(s.next(256))
	}
	return b
}

func put(name string, stamp, node int, text string) api.File {
	return api.File{Name: name, Stamp: stamp, Node: node, Bytes: []byte(text)}
}

func gone(name string, stamp, node int) api.File {
	return api.File{Name: name, Stamp: stamp, Node: node, Gone: true}
}

func sameFile(a, b api.File) bool {
	return a.Name == b.Name && bytes.Equal(a.Bytes, b.Bytes) && a.Stamp == b.Stamp && a.Node == b.Node && a.Gone == b.Gone
}

func sameFiles(a, b []api.File) bool { return slices.EqualFunc(a, b, sameFile) }

func sameDisk(a, b api.Disk) bool { return bytes.Equal(a.Safe, b.Safe) && bytes.Equal(a.Wait, b.Wait) }

// nothing: is a disk zero?
func nothing(d api.Disk) bool { return d.Safe == nil && d.Wait == nil }

// short: files told in few words.
func short(l []api.File) string {
	var out []string
	for _, f := range l {
		out = append(out, fmt.Sprintf("%q:%d bytes,%d,%d,%v", f.Name, len(f.Bytes), f.Stamp, f.Node, f.Gone))
	}
	return "[" + strings.Join(out, " ") + "]"
}

func sizes(d api.Disk) string { return fmt.Sprintf("%d safe, %d waiting", len(d.Safe), len(d.Wait)) }

// rec: the record of an archive, by the chapter's words.
func rec(archive []byte) []byte {
	out := binary.LittleEndian.AppendUint32(nil, uint32(len(archive)))
	out = binary.LittleEndian.AppendUint32(out, crc32.ChecksumIEEE(archive))
	return append(out, archive...)
}

// recs: the records of lists of files, one behind the other.
func recs(t *testing.T, lists ...[]api.File) []byte {
	t.Helper()
	var out []byte
	for _, l := range lists {
		archive, e := zip.Write(l)
		if e != api.OK {
			t.Fatalf("Write of %s: %v", short(l), e)
		}
		out = append(out, rec(archive)...)
	}
	return out
}

// names: the newest file of each name.
type names map[string]api.File

// take takes files in.
func (m names) take(l []api.File) {
	for _, f := range l {
		if old, ok := m[f.Name]; !ok || newer(f, old) {
			m[f.Name] = f
		}
	}
}

// newer: is a file newer than another one? What counts is laid in rows of bytes that rise as it does.
func newer(a, b api.File) bool {
	row := func(f api.File) string {
		return fmt.Sprintf("%09d %d %v ", f.Stamp, f.Node, f.Gone) + string(f.Bytes)
	}
	return row(a) > row(b)
}

// files: all files, rising.
func (m names) files() []api.File {
	var out []api.File
	for _, f := range m {
		out = append(out, f)
	}
	slices.SortFunc(out, func(a, b api.File) int { return strings.Compare(a.Name, b.Name) })
	return out
}

// allTogether: what lists make together.
func allTogether(lists ...[]api.File) []api.File {
	m := names{}
	for _, l := range lists {
		m.take(l)
	}
	return m.files()
}

// modelSplit: the lists of the records that a row begins with, and the rest of the row.
func modelSplit(b []byte) (lists [][]api.File, rest []byte) {
	for len(b) >= 8 {
		long := uint64(binary.LittleEndian.Uint32(b))
		if long > uint64(len(b)-8) {
			break
		}
		archive := b[8 : 8+long]
		l, e := zip.Read(archive)
		if e != api.OK || !bytes.Equal(rec(archive), b[:8+long]) || len(allTogether(append(lists, l)...)) > 12 {
			break
		}
		lists, b = append(lists, l), b[8+long:]
	}
	return lists, b
}

// modelCheck: Check by the chapter's words.
func modelCheck(d api.Disk) api.Errno {
	all := slices.Concat(d.Safe, d.Wait)
	if len(all) > 40000 {
		return api.ErrMany
	}
	_, a := modelSplit(d.Safe)
	_, b := modelSplit(all)
	if len(a) > 0 || len(b) > 0 {
		return api.ErrTorn
	}
	return api.OK
}

// wantRecovered: Recover must answer the first kept bytes.
func wantRecovered(t *testing.T, what string, b []byte, kept int) {
	t.Helper()
	d, lost, e := shelf.Recover(b)
	if e != api.OK || !bytes.Equal(d.Safe, b[:kept]) || len(d.Wait) > 0 || lost != len(b)-kept {
		t.Errorf("%s: Recover of %d bytes: %s, %d lost, %v; want %d safe", what, len(b), sizes(d), lost, e, kept)
	}
	if lists, rest := modelSplit(b); len(b)-len(rest) != kept {
		t.Errorf("%s: by the words %d lists in %d bytes, want %d", what, len(lists), len(b)-len(rest), kept)
	}
}

// wantFiles: a disk must be right, and have these files.
func wantFiles(t *testing.T, what string, d api.Disk, want []api.File) {
	t.Helper()
	if e := shelf.Check(d); e != api.OK {
		t.Errorf("%s: Check: %v", what, e)
	}
	if got, e := shelf.Files(d); e != api.OK || !sameFiles(got, want) {
		t.Errorf("%s: Files: %s, %v, want %s", what, short(got), e, short(want))
	}
}

// wantDisk: a call must answer this disk, and no error.
func wantDisk(t *testing.T, what string, got api.Disk, e api.Errno, want api.Disk) {
	t.Helper()
	if e != api.OK || !sameDisk(got, want) {
		t.Errorf("%s: %s, %v, want %s", what, sizes(got), e, sizes(want))
	}
}

// wantNoDisk: a call must answer this error, and nothing else.
func wantNoDisk(t *testing.T, what string, got api.Disk, e, want api.Errno) {
	t.Helper()
	if e != want || !nothing(got) {
		t.Errorf("%s: %s, %v, want %v", what, sizes(got), e, want)
	}
}

// wantRefused: all that take a disk must say that this is wrong with it, whatever else is.
func wantRefused(t *testing.T, what string, d api.Disk, want api.Errno) {
	t.Helper()
	if e := modelCheck(d); e != want {
		t.Errorf("%s: by the words %v, want %v", what, e, want)
	}
	if e := shelf.Check(d); e != want {
		t.Errorf("%s: Check: %v, want %v", what, e, want)
	}
	if l, e := shelf.Files(d); e != want || l != nil {
		t.Errorf("%s: Files: %s, %v, want %v", what, short(l), e, want)
	}
	for _, l := range [][]api.File{nil, {put("a", 1, 1, "x")}, {put("..", 1, 1, "x")}, {put("a", -1, 1, "x")}} {
		got, e := shelf.Add(d, l)
		wantNoDisk(t, what+": Add of "+short(l), got, e, want)
	}
	for _, n := range []int{-1, 0, len(d.Wait), len(d.Wait) + 1} {
		got, lost, e := shelf.Cut(d, n)
		wantNoDisk(t, fmt.Sprint(what, ": Cut at ", n), got, e, want)
		if lost != 0 {
			t.Errorf("%s: Cut at %d: %d lost, with an error", what, n, lost)
		}
	}
	got, e := shelf.Flush(d)
	wantNoDisk(t, what+": Flush", got, e, want)
	got, e = shelf.Pack(d)
	wantNoDisk(t, what+": Pack", got, e, want)
}
