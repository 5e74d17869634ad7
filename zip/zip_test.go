package zip_test

import (
	stdzip "archive/zip"
	"bytes"
	"fmt"
	"io"
	"slices"
	"strings"
	"testing"

	"reliquary/api"
	"reliquary/block"
	"reliquary/zip"
)

// source: numbers that look as if by chance, always the same.
type source uint32

func (s *source) next(n int) int {
	*s = *s*1664525 + 1013904223
	return int(*s>>8) % n
}

// noise: bytes of so many kinds.
func noise(many, kinds int, seed uint32) []byte {
	b := make([]byte, many)
	s := source(seed)
	for i := range b {
		b[i] = byte(s.next(kinds))
	}
	return b
}

func put(name string, stamp, node int, text string) api.File {
	return api.File{Name: name, Stamp: stamp, Node: node, Bytes: []byte(text)}
}

func gone(name string, stamp, node int) api.File {
	return api.File{Name: name, Stamp: stamp, Node: node, Gone: true}
}

func sameFile(a, b api.File) bool {
	return a.Name == b.Name && bytes.Equal(a.Bytes, b.Bytes) && a.Stamp == b.Stamp && a.Node == b.Node && a.Gone == b.Gone
}

func sameFiles(a, b []api.File) bool { return slices.EqualFunc(a, b, sameFile) }

// short: files told in few words.
func short(l []api.File) string {
	var out []string
	for _, f := range l {
		out = append(out, fmt.Sprintf("%q:%d bytes,%d,%d,%v", f.Name, len(f.Bytes), f.Stamp, f.Node, f.Gone))
	}
	return "[" + strings.Join(out, " ") + "]"
}

func names(l []api.File) []string {
	var out []string
	for _, f := range l {
		out = append(out, f.Name)
	}
	return out
}

// written: the archive of files that Write takes.
func written(t *testing.T, l []api.File) []byte {
	t.Helper()
	b, e := zip.Write(l)
	if e != api.OK {
		t.Fatalf("Write of %s: %v", short(l), e)
	}
	return b
}

func wantWrite(t *testing.T, l []api.File, want []byte) {
	t.Helper()
	if got, e := zip.Write(l); !bytes.Equal(got, want) || e != api.OK {
		t.Errorf("Write of %s: % X %v, want % X", short(l), got, e, want)
	}
}

func wantWriteError(t *testing.T, what string, l []api.File, want api.Errno) {
	t.Helper()
	if got, e := zip.Write(l); got != nil || e != want {
		t.Errorf("%s: Write of %s: %d bytes %v, want %v", what, short(l), len(got), e, want)
	}
}

// wantRead: Read must answer the files, and Names their names.
func wantRead(t *testing.T, what string, b []byte, want []api.File) {
	t.Helper()
	if got, e := zip.Read(b); !sameFiles(got, want) || e != api.OK {
		t.Errorf("%s: Read: %s %v, want %s", what, short(got), e, short(want))
	}
	if got, e := zip.Names(b); !slices.Equal(got, names(want)) || e != api.OK {
		t.Errorf("%s: Names: %q %v, want %q", what, got, e, names(want))
	}
}

// wantError: Read and Names must refuse, with nothing beside the error.
func wantError(t *testing.T, what string, b []byte, want api.Errno) {
	t.Helper()
	if got, e := zip.Read(b); got != nil || e != want {
		t.Errorf("%s: Read: %s %v, want %v", what, short(got), e, want)
	}
	if got, e := zip.Names(b); got != nil || e != want {
		t.Errorf("%s: Names: %q %v, want %v", what, got, e, want)
	}
}

// ofNone: the archive of no files.
func ofNone() []byte {
	return []byte{0x50, 0x4B, 5, 6, 0, 0, 0, 0, 0, 0, 0, 0, 0, 0, 0, 0, 0, 0, 0, 0, 0, 0}
}

func TestNoFilesByHand(t *testing.T) {
	wantWrite(t, nil, ofNone())
	wantWrite(t, []api.File{}, ofNone())
	wantRead(t, "of none", ofNone(), nil)
}

func TestOneFileByHand(t *testing.T) {
	l := []api.File{put("a", api.MaxStamp, api.MaxNodes-1, "a")}
	b := []byte{
		0x50, 0x4B, 3, 4, 20, 0, 0, 0, 0, 0, 0, 0, 0, 0, 0x43, 0xBE, 0xB7, 0xE8, 1, 0, 0, 0, 1, 0, 0, 0, 1, 0, 11, 0,
		'a', 0x71, 0x72, 7, 0, 0x40, 0x42, 0x0F, 0, 3, 0, 0, 'a',
		0x50, 0x4B, 1, 2, 20, 0, 20, 0, 0, 0, 0, 0, 0, 0, 0, 0, 0x43, 0xBE, 0xB7, 0xE8, 1, 0, 0, 0, 1, 0, 0, 0, 1, 0, 11, 0,
		0, 0, 0, 0, 0, 0, 0, 0, 0, 0, 0, 0, 0, 0, 'a', 0x71, 0x72, 7, 0, 0x40, 0x42, 0x0F, 0, 3, 0, 0,
		0x50, 0x4B, 5, 6, 0, 0, 0, 0, 1, 0, 1, 0, 58, 0, 0, 0, 43, 0, 0, 0, 0, 0,
	}
	wantWrite(t, l, b)
	wantRead(t, "a", b, l)
}

// aaaaa by fixed codes: 1 10 10010001, four more of one ahead: 0000010 00000, and the end: 0000000.
func TestTwoFilesByHand(t *testing.T) {
	l := []api.File{gone("a.b", 0x0102, 2), put("c/d", 0, 0, "aaaaa")}
	b := []byte{
		0x50, 0x4B, 3, 4, 20, 0, 0, 0, 0, 0, 0, 0, 0, 0, 0, 0, 0, 0, 0, 0, 0, 0, 0, 0, 0, 0, 3, 0, 11, 0,
		'a', '.', 'b', 0x71, 0x72, 7, 0, 2, 1, 0, 0, 2, 0, 1,
		0x50, 0x4B, 3, 4, 20, 0, 0, 0, 8, 0, 0, 0, 0, 0, 0xB9, 0x93, 0xAC, 0xEE, 4, 0, 0, 0, 5, 0, 0, 0, 3, 0, 11, 0,
		'c', '/', 'd', 0x71, 0x72, 7, 0, 0, 0, 0, 0, 0, 0, 0, 0x4B, 4, 1, 0,
		0x50, 0x4B, 1, 2, 20, 0, 20, 0, 0, 0, 0, 0, 0, 0, 0, 0, 0, 0, 0, 0, 0, 0, 0, 0, 0, 0, 0, 0, 3, 0, 11, 0,
		0, 0, 0, 0, 0, 0, 0, 0, 0, 0, 0, 0, 0, 0, 'a', '.', 'b', 0x71, 0x72, 7, 0, 2, 1, 0, 0, 2, 0, 1,
		0x50, 0x4B, 1, 2, 20, 0, 20, 0, 0, 0, 8, 0, 0, 0, 0, 0, 0xB9, 0x93, 0xAC, 0xEE, 4, 0, 0, 0, 5, 0, 0, 0, 3, 0, 11, 0,
		0, 0, 0, 0, 0, 0, 0, 0, 0, 0, 44, 0, 0, 0, 'c', '/', 'd', 0x71, 0x72, 7, 0, 0, 0, 0, 0, 0, 0, 0,
		0x50, 0x4B, 5, 6, 0, 0, 0, 0, 2, 0, 2, 0, 120, 0, 0, 0, 92, 0, 0, 0, 0, 0,
	}
	wantWrite(t, l, b)
	wantRead(t, "a.b and c/d", b, l)
}

// Places, sizes and beginnings of more than one byte: the lowest one first, too.
func TestGreatNumbersByHand(t *testing.T) {
	first := noise(700, 256, 5)
	l := []api.File{put("a", 1, 1, string(first)), gone("b", 2, 2)}
	got := written(t, l)
	at := map[int]int{18: 0xBC, 19: 2, 22: 0xBC, 23: 2} // 700 packed, 700 in all
	second := 42 + 700                                  // where b stands: 742
	begin := second + 42                                // 784
	at[begin+58+42], at[begin+58+43] = 0xE6, 2          // b's place
	end := begin + 2*58
	at[end+8], at[end+10], at[end+12], at[end+13] = 2, 2, 116, 0
	at[end+16], at[end+17], at[end+18], at[end+19] = 0x10, 3, 0, 0
	if len(got) != end+22 {
		t.Fatalf("%d bytes, want %d", len(got), end+22)
	}
	for i, want := range at {
		if got[i] != byte(want) {
			t.Errorf("byte %d is %d, want %d", i, got[i], want)
		}
	}
	if !bytes.Equal(got[42:second], first) {
		t.Error("the packed bytes aren't the Bytes")
	}
}

// Bytes are packed if that is shorter; if it is just as long, they stay as they are.
func TestPackedIfShorter(t *testing.T) {
	for _, c := range []struct {
		text   string
		order  int // of Best's length to the Bytes' length
		method byte
	}{
		{"", 1, 0}, {"a", 1, 0}, {"abc", 1, 0}, {"aaa", 1, 0}, {"aaaa", 0, 0}, {"aaaaa", -1, 8},
		{strings.Repeat("hello ", 60), -1, 8}, {string(noise(api.MaxBytes, 256, 7)), 1, 0},
		{strings.Repeat("a", api.MaxBytes), -1, 8}, {string(noise(api.MaxBytes, 9, 7)), -1, 8},
	} {
		best, _, e := block.Best([]byte(c.text))
		if order := min(1, max(-1, len(best)-len(c.text))); order != c.order || e != api.OK {
			t.Fatalf("Best of %d bytes has %d, %v", len(c.text), len(best), e)
		}
		l := []api.File{put("a", 1, 1, c.text)}
		b := written(t, l)
		want := []byte(c.text)
		if c.method == 8 {
			want = best
		}
		if b[8] != c.method || !bytes.Equal(b[42:42+len(want)], want) || len(b) != 122+len(want) {
			t.Errorf("%d bytes, of which Best makes %d: method %d, archive of %d bytes", len(c.text), len(best), b[8], len(b))
		}
		wantRead(t, "packed if shorter", b, l)
	}
}

// edges: files at all edges that a list may have.
func edges() [][]api.File {
	long := strings.Repeat("n", api.MaxName)
	many := make([]api.File, api.MaxFiles)
	for i := range many {
		many[i] = put("f"+string(rune('a'+i)), i, i%api.MaxNodes, strings.Repeat("x", i))
	}
	all := slices.Repeat([]api.File{gone("", api.MaxStamp, api.MaxNodes-1)}, api.MaxFiles)
	for i := range all {
		all[i].Name = long[:api.MaxName-1] + string(rune('A'+i))
	}
	full := make([]api.File, api.MaxFiles)
	for i := range full {
		full[i] = put("f"+string(rune('a'+i)), api.MaxStamp, 0, strings.Repeat("full ", api.MaxBytes/5))
	}
	return [][]api.File{
		nil, many, all, full,
		{put("a", 0, 0, "")}, {put("a", 0, 0, "x")}, {gone("a", 0, 0)},
		{put(long, api.MaxStamp, api.MaxNodes-1, "x")}, {gone(long, api.MaxStamp, api.MaxNodes-1)},
		{put("a", 0, 0, string(noise(api.MaxBytes, 256, 1)))}, {put("a", 0, 0, string(make([]byte, api.MaxBytes)))},
		{put("a", 0, 0, string(noise(api.MaxBytes-1, 256, 1)))},
		{put("a", 255, 1, "x"), put("a-", 256, 1, "x"), put("a/b", 65535, 2, "x"), gone("b", 65536, 3)},
		// Bytes that look like what stands around them.
		{put("a", 1, 1, string(ofNone())), put("b", 1, 1, "PK\x03\x04"), put("c", 1, 1, "PK\x01\x02"), put("d", 1, 1, "PK\x05\x06")},
	}
}

func TestReadOfWriteIsTheFiles(t *testing.T) {
	for _, l := range edges() {
		b := written(t, l)
		wantWrite(t, l, archive(itemsOf(l)...))
		wantRead(t, "written", b, l)
	}
}

// someFiles: a list as Check takes it, whatever it has.
func (s *source) someFiles() []api.File {
	var l []api.File
	for i := range s.next(api.MaxFiles + 1) {
		f := put(string(rune('a'+i))+strings.Repeat("x", s.next(api.MaxName)), s.next(api.MaxStamp+1), s.next(api.MaxNodes), "")
		switch s.next(4) {
		case 0:
			f.Gone = true
		case 1:
			f.Bytes = noise(s.next(6), 1+s.next(3), uint32(s.next(1000)))
		default:
			f.Bytes = noise(s.next(900), 1+s.next(256), uint32(s.next(1000)))
		}
		l = append(l, f)
	}
	return l
}

func TestReadOfWriteOfManyLists(t *testing.T) {
	s := source(11)
	for range 300 {
		l := s.someFiles()
		wantWrite(t, l, archive(itemsOf(l)...))
		wantRead(t, "written", written(t, l), l)
	}
}

// Whoever reads zip archives reads what is written.
func TestTheLibraryReadsWhatIsWritten(t *testing.T) {
	for _, l := range edges() {
		b := written(t, l)
		r, err := stdzip.NewReader(bytes.NewReader(b), int64(len(b)))
		if err != nil || len(r.File) != len(l) {
			t.Fatalf("%s: the library reads %v, %v", short(l), r, err)
		}
		for i, f := range r.File {
			in, err := f.Open()
			if err != nil {
				t.Fatalf("%s: %v", f.Name, err)
			}
			got, err := io.ReadAll(in)
			if err != nil || f.Name != l[i].Name || !bytes.Equal(got, l[i].Bytes) {
				t.Errorf("%s: the library reads %d bytes of %s, %v", short(l[i:i+1]), len(got), f.Name, err)
			}
		}
	}
}

// fullFiles: files whose archive has api.MaxArchive bytes, and so many more: noise that nothing packs.
func fullFiles(more int) []api.File {
	l := []api.File{put("a", 1, 0, ""), put("b", 1, 0, ""), put("c", 1, 0, ""), put("d", 1, 0, "")}
	left := api.MaxArchive + more - 22 - 4*100
	for i := range l {
		many := min(left, api.MaxBytes)
		l[i].Bytes = noise(many, 256, uint32(i+1))
		left -= many
	}
	return l
}

func TestJustAsManyAsMayBe(t *testing.T) {
	for _, more := range []int{-1, 0} {
		l := fullFiles(more)
		b := written(t, l)
		if len(b) != api.MaxArchive+more || !bytes.Equal(b, archive(itemsOf(l)...)) {
			t.Errorf("%d bytes, want %d", len(b), api.MaxArchive+more)
		}
		wantRead(t, "full", b, l)
	}
}

func TestOneMoreThanMayBe(t *testing.T) {
	for _, more := range []int{1, 2, 300} {
		l := fullFiles(more)
		wantWriteError(t, "full", l, api.ErrFull)
		b := archive(itemsOf(l)...)
		if len(b) != api.MaxArchive+more {
			t.Fatalf("%d bytes, want %d", len(b), api.MaxArchive+more)
		}
		wantError(t, "one more", b, api.ErrMany)
	}
	var l []api.File
	for i := range api.MaxFiles {
		l = append(l, put(string(rune('a'+i)), 1, 0, string(noise(api.MaxBytes, 256, uint32(i)))))
	}
	wantWriteError(t, "all full", l, api.ErrFull)
}

func TestWriteSaysCheckFirst(t *testing.T) {
	thirteen := make([]api.File, api.MaxFiles+1)
	for i := range thirteen {
		thirteen[i].Name = string(rune('a' + i))
	}
	tooLong := strings.Repeat("x", api.MaxName+1)
	for _, c := range []struct {
		what string
		l    []api.File
		want api.Errno
	}{
		{"thirteen", thirteen, api.ErrMany},
		{"a name too long", []api.File{put(tooLong, 0, 0, "")}, api.ErrMany},
		{"no name", []api.File{put("", 0, 0, "")}, api.ErrText},
		{"a name that isn't one", []api.File{put("a//b", 0, 0, "")}, api.ErrText},
		{"too many Bytes", []api.File{put("a", 0, 0, strings.Repeat("a", api.MaxBytes+1))}, api.ErrMany},
		{"a Stamp below 0", []api.File{put("a", -1, 0, "")}, api.ErrRange},
		{"a Stamp too great", []api.File{put("a", api.MaxStamp+1, 0, "")}, api.ErrRange},
		{"a Node below 0", []api.File{put("a", 0, -1, "")}, api.ErrRange},
		{"a Node too great", []api.File{put("a", 0, api.MaxNodes, "")}, api.ErrRange},
		{"Gone with Bytes", []api.File{{Name: "a", Gone: true, Bytes: []byte("a")}}, api.ErrForm},
		{"a name twice", []api.File{put("a", 0, 0, ""), put("a", 0, 0, "")}, api.ErrForm},
		{"names that fall", []api.File{put("b", 0, 0, ""), put("a", 0, 0, "")}, api.ErrForm},
		{"the first of two", []api.File{put("a", -1, 0, ""), put("", 0, 0, "")}, api.ErrRange},
		{"behind too many for an archive", append(fullFiles(1), put("e", 0, -1, "")), api.ErrRange},
	} {
		wantWriteError(t, c.what, c.l, c.want)
	}
}
