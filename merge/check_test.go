package merge_test

import (
	"bytes"
	"cmp"
	"fmt"
	"math"
	"slices"
	"strings"
	"testing"

	"reliquary/api"
	"reliquary/merge"
)

// put: a file that is there.
func put(name string, stamp, node int, b string) api.File {
	return api.File{Name: name, Stamp: stamp, Node: node, Bytes: []byte(b)}
}

// gone: a file that was taken away.
func gone(name string, stamp, node int) api.File {
	return api.File{Name: name, Stamp: stamp, Node: node, Gone: true}
}

// files: a list of these.
func files(l ...api.File) []api.File { return l }

// named: files of these names, all else zero.
func named(names ...string) []api.File {
	var l []api.File
	for _, n := range names {
		l = append(l, api.File{Name: n})
	}
	return l
}

// many: so many files whose names rise, each beginning with those letters.
func many(n int, letters string) []api.File {
	var l []api.File
	for i := range n {
		l = append(l, put(fmt.Sprintf("%s%02d", letters, i), i, i%api.MaxNodes, letters))
	}
	return l
}

// with: a file with something changed.
func with(f api.File, change func(*api.File)) api.File {
	change(&f)
	return f
}

// sameFile: are two files alike, with their names? No bytes are no bytes, nil or empty.
func sameFile(a, b api.File) bool {
	return a.Name == b.Name && a.Stamp == b.Stamp && a.Node == b.Node && a.Gone == b.Gone && bytes.Equal(a.Bytes, b.Bytes)
}

func sameFiles(a, b []api.File) bool { return slices.EqualFunc(a, b, sameFile) }

// short: files as a short text.
func short(l []api.File) string {
	var b strings.Builder
	for _, f := range l {
		fmt.Fprintf(&b, "[%.45q %d.%d gone=%v %d:%.9q]", f.Name, f.Stamp, f.Node, f.Gone, len(f.Bytes), f.Bytes)
	}
	return b.String()
}

func wantCheck(t *testing.T, l []api.File, want api.Errno) {
	t.Helper()
	if e := merge.Check(l); e != want {
		t.Errorf("Check of %s: %v, want %v", short(l), e, want)
	}
}

// wantFiles: a call answered these; with an error no list.
func wantFiles(t *testing.T, what string, got []api.File, e api.Errno, want []api.File, wantErr api.Errno) {
	t.Helper()
	if !sameFiles(got, want) || e != wantErr || e != api.OK && got != nil {
		t.Errorf("%s: %s %v, want %s %v", what, short(got), e, short(want), wantErr)
	}
}

// P10.1

func TestCheck(t *testing.T) {
	wantCheck(t, nil, api.OK)
	wantCheck(t, files(), api.OK)
	wantCheck(t, named("a"), api.OK)
	wantCheck(t, files(put("a", 1, 0, ""), put("b", 2, 1, "x"), gone("c/d", 3, 2)), api.OK)
	wantCheck(t, named("A", "B", "a", "a-", "a.b", "a/b", "a0", "a_", "aa", "b"), api.OK)
}

func TestHowManyFilesMayBe(t *testing.T) {
	for _, n := range []int{1, 2, api.MaxFiles - 1, api.MaxFiles} {
		wantCheck(t, many(n, "f"), api.OK)
	}
	for _, n := range []int{api.MaxFiles + 1, api.MaxFiles + 2, 90} {
		wantCheck(t, many(n, "f"), api.ErrMany)
	}
	wantCheck(t, make([]api.File, 1000000), api.ErrMany)
	// Files in the spare room are none.
	wantCheck(t, many(api.MaxFiles+1, "f")[:api.MaxFiles], api.OK)
}

func TestTooManyFilesAreToldFirst(t *testing.T) {
	for _, d := range allDefects() {
		for i := range api.MaxFiles {
			l := many(api.MaxFiles, "f")
			l[i] = with(l[i], d.change)
			wantCheck(t, l, d.err)
			wantCheck(t, append(l, api.File{Name: "z"}), api.ErrMany)
		}
	}
	wantCheck(t, make([]api.File, api.MaxFiles), api.ErrText)
	wantCheck(t, make([]api.File, api.MaxFiles+1), api.ErrMany)
}

func TestNamesOfFiles(t *testing.T) {
	long := strings.Repeat("n", api.MaxName)
	wantCheck(t, named(long), api.OK)
	wantCheck(t, named(long+"n"), api.ErrMany)
	wantCheck(t, named(long+" "), api.ErrMany)
	wantCheck(t, named(long[1:]+" "), api.ErrText)
	wantCheck(t, named(long[2:]+"/x"), api.OK)
	for _, n := range []string{"", ".", "..", "a/", "/a", "a//b", "a/../b", "a b", "\u00e9", "a\x00", "\xff"} {
		wantCheck(t, named(n), api.ErrText)
	}
}

func TestHowManyBytesMayBe(t *testing.T) {
	for _, n := range []int{0, 1, api.MaxBytes - 1, api.MaxBytes} {
		wantCheck(t, files(put("a", 0, 0, strings.Repeat("x", n))), api.OK)
	}
	for _, n := range []int{api.MaxBytes + 1, api.MaxBytes + 2, 100000} {
		wantCheck(t, files(put("a", 0, 0, strings.Repeat("x", n))), api.ErrMany)
	}
	// Of each, not of all together.
	full := strings.Repeat("x", api.MaxBytes)
	wantCheck(t, files(put("a", 0, 0, full), put("b", 0, 0, full)), api.OK)
	wantCheck(t, files(api.File{Name: "a", Bytes: make([]byte, api.MaxBytes, 2*api.MaxBytes)}), api.OK)
}

func TestWhichStampsMayBe(t *testing.T) {
	for _, x := range []int{0, 1, api.MaxStamp - 1, api.MaxStamp} {
		wantCheck(t, files(put("a", x, 0, "x")), api.OK)
		wantCheck(t, files(gone("a", x, 0)), api.OK)
	}
	for _, x := range []int{-1, api.MaxStamp + 1, math.MinInt, math.MaxInt, 1 << 32, -1 << 32} {
		wantCheck(t, files(put("a", x, 0, "x")), api.ErrRange)
		wantCheck(t, files(gone("a", x, 0)), api.ErrRange)
	}
}

func TestWhichNodesMayBe(t *testing.T) {
	for _, x := range []int{0, 1, api.MaxNodes - 1} {
		wantCheck(t, files(put("a", 0, x, "x")), api.OK)
		wantCheck(t, files(gone("a", 0, x)), api.OK)
	}
	for _, x := range []int{-1, api.MaxNodes, api.MaxNodes + 1, math.MinInt, math.MaxInt, 1 << 32} {
		wantCheck(t, files(put("a", 0, x, "x")), api.ErrRange)
		wantCheck(t, files(gone("a", 0, x)), api.ErrRange)
	}
}

func TestGoneFilesHaveNoBytes(t *testing.T) {
	wantCheck(t, files(gone("a", 0, 0)), api.OK)
	wantCheck(t, files(api.File{Name: "a", Gone: true, Bytes: []byte{}}), api.OK)
	wantCheck(t, files(api.File{Name: "a", Gone: true, Bytes: []byte("x")[:0]}), api.OK)
	wantCheck(t, files(api.File{Name: "a", Gone: true, Bytes: []byte{0}}), api.ErrForm)
	wantCheck(t, files(api.File{Name: "a", Gone: true, Bytes: make([]byte, api.MaxBytes)}), api.ErrForm)
}

func TestNamesRise(t *testing.T) {
	for _, l := range [][]string{{"a", "a"}, {"b", "a"}, {"a", "b", "b"}, {"a", "c", "b"}, {"b", "c", "a"}, {"a", "b", "a"}, {"a", "B"}, {"a/b", "a.b"}, {"a/b", "a"}, {"aa", "a"}, {"a_", "aZ"}, {"a10", "a1"}, {"a2", "a10"}} {
		wantCheck(t, named(l...), api.ErrForm)
	}
	// Two of one name, though they are parted otherwise.
	wantCheck(t, files(put("a", 1, 0, "x"), put("a", 2, 1, "y")), api.ErrForm)
	wantCheck(t, files(put("a", 1, 0, "x"), gone("a", 2, 1)), api.ErrForm)
	// The place of the bytes counts, not that of the parts.
	wantCheck(t, named("a-b", "a.b", "a/b"), api.OK)
}

// defect: what may be wrong with a file, and its error.
type defect struct {
	what   string
	err    api.Errno
	change func(*api.File)
}

// defects: of one file, in the chapter's order; those of one line are told as one.
func defects() [][]defect {
	tooMany := make([]byte, api.MaxBytes+1)
	return [][]defect{
		{
			{"name's bytes", api.ErrMany, func(f *api.File) { f.Name = strings.Repeat("n", api.MaxName+1) }},
			{"no name", api.ErrText, func(f *api.File) { f.Name = "" }},
			{"wrong name", api.ErrText, func(f *api.File) { f.Name = f.Name + "/.." }},
		},
		{
			{"bytes", api.ErrMany, func(f *api.File) { f.Bytes = tooMany }},
		},
		{
			{"stamp below", api.ErrRange, func(f *api.File) { f.Stamp = -1 }},
			{"stamp above", api.ErrRange, func(f *api.File) { f.Stamp = api.MaxStamp + 1 }},
			{"node below", api.ErrRange, func(f *api.File) { f.Node = -1 }},
			{"node above", api.ErrRange, func(f *api.File) { f.Node = api.MaxNodes }},
		},
		{
			{"gone with bytes", api.ErrForm, func(f *api.File) {
				f.Gone = true
				if len(f.Bytes) == 0 {
					f.Bytes = []byte("x")
				}
			}},
		},
	}
}

func allDefects() []defect { return slices.Concat(defects()...) }

// Each choice of what is wrong with one file, at each place: the first is told.
func TestFirstOfWhatIsWrongWithAFile(t *testing.T) {
	tried := 0
	var try func(chosen []defect, rest [][]defect)
	try = func(chosen []defect, rest [][]defect) {
		if len(rest) > 0 {
			try(chosen, rest[1:])
			for _, d := range rest[0] {
				try(append(slices.Clone(chosen), d), rest[1:])
			}
			return
		}
		for i := range 3 {
			for _, falls := range []bool{false, true} {
				l := named("b", "c", "d")
				want := api.OK
				if falls && i > 0 {
					l[i].Name = "a"
					want = api.ErrForm
				}
				for _, d := range slices.Backward(chosen) {
					d.change(&l[i])
					want = d.err
				}
				wantCheck(t, l[:i+1], want)
				tried++
			}
		}
	}
	try(nil, defects())
	if tried != 4*2*5*2*6 {
		t.Errorf("%d tries", tried)
	}
}

// Of two files that are wrong the one further ahead is told, whatever is wrong with it.
func TestFirstOfWrongFiles(t *testing.T) {
	for _, d := range allDefects() {
		for _, d2 := range allDefects() {
			l := named("a", "b", "c", "d")
			d.change(&l[1])
			d2.change(&l[3])
			wantCheck(t, l, d.err)
			wantCheck(t, l[2:], d2.err)
			wantCheck(t, l[:1], api.OK)
		}
		// A name that falls is told where it stands, ahead of what is wrong behind it.
		l := named("b", "a", "c")
		d.change(&l[2])
		wantCheck(t, l, api.ErrForm)
		l = named("a", "c", "b")
		d.change(&l[0])
		wantCheck(t, l, d.err)
	}
}

// P10.2: Newer

func wantNewer(t *testing.T, a, b api.File, want int) {
	t.Helper()
	if got := merge.Newer(a, b); got != want {
		t.Errorf("Newer of %s, %s: %d, want %d", short(files(a)), short(files(b)), got, want)
	}
	if got := merge.Newer(b, a); got != -want {
		t.Errorf("Newer of %s, %s: %d, want %d", short(files(b)), short(files(a)), got, -want)
	}
}

func TestNewer(t *testing.T) {
	x := put("a", 5, 2, "m")
	wantNewer(t, x, x, 0)
	wantNewer(t, x, put("a", 4, 2, "m"), 1)
	wantNewer(t, x, put("a", 6, 2, "m"), -1)
	wantNewer(t, x, put("a", 5, 1, "m"), 1)
	wantNewer(t, x, put("a", 5, 3, "m"), -1)
	wantNewer(t, gone("a", 5, 2), put("a", 5, 2, ""), 1)
	wantNewer(t, gone("a", 5, 2), gone("a", 5, 2), 0)
	wantNewer(t, x, put("a", 5, 2, "l"), 1)
	wantNewer(t, x, put("a", 5, 2, "n"), -1)
}

// Each of them counts only where all ahead of it are alike.
func TestOrderOfWhatPartsFiles(t *testing.T) {
	wantNewer(t, put("a", 6, 0, ""), put("a", 5, 3, "z"), 1)
	wantNewer(t, put("a", 6, 0, ""), gone("a", 5, 3), 1)
	wantNewer(t, put("a", 5, 3, ""), gone("a", 5, 2), 1)
	wantNewer(t, put("a", 5, 3, ""), put("a", 5, 2, "z"), 1)
	wantNewer(t, gone("a", 5, 2), put("a", 5, 2, "z"), 1)
	wantNewer(t, put("a", 10, 0, ""), put("a", 9, 0, ""), 1)
}

func TestNewerByBytes(t *testing.T) {
	rising := []string{"", "\x00", "\x00\x00", "\x00\x01", "\x01", "A", "AB", "B", "a", "a\x00", "aa", "b", "\x7f", "\x80", "\xff", "\xff\x00"}
	for i, a := range rising {
		for j, b := range rising {
			want := cmp.Compare(i, j)
			wantNewer(t, put("a", 1, 1, a), put("a", 1, 1, b), want)
			wantNewer(t, put("a", 1, 1, "same"+a), put("a", 1, 1, "same"+b), want)
		}
	}
	wantNewer(t, api.File{}, api.File{Bytes: []byte{}}, 0)
	wantNewer(t, api.File{Bytes: []byte("ab")[:1]}, api.File{Bytes: []byte("ac")[:1]}, 0)
}

func TestNewerDoesNotAskForNames(t *testing.T) {
	wantNewer(t, put("a", 1, 1, "x"), put("b", 1, 1, "x"), 0)
	wantNewer(t, put("a", 2, 1, "x"), put("b", 1, 1, "x"), 1)
	wantNewer(t, put("b", 1, 1, "x"), put("a", 1, 1, "y"), -1)
	wantNewer(t, put("", 1, 1, "x"), put("..", 1, 1, "x"), 0)
}

// Newer has no error: of files that Check refuses it answers, too.
func TestNewerOfWrongFiles(t *testing.T) {
	numbers := []int{math.MinInt, math.MinInt + 1, -1, 0, 1, api.MaxStamp, api.MaxStamp + 1, math.MaxInt - 1, math.MaxInt}
	for i, x := range numbers {
		for _, y := range numbers[:i] {
			wantNewer(t, put("a", x, 0, ""), put("a", y, 0, "z"), 1)
			wantNewer(t, put("a", 0, x, ""), put("a", 0, y, "z"), 1)
			wantNewer(t, put("a", x, math.MinInt, ""), put("a", y, math.MaxInt, ""), 1)
		}
	}
	withBytes := api.File{Gone: true, Bytes: []byte("x")}
	wantNewer(t, withBytes, gone("", 0, 0), 1)
	wantNewer(t, withBytes, put("", 0, 0, "y"), 1)
	long := bytes.Repeat([]byte("x"), 5*api.MaxBytes)
	wantNewer(t, api.File{Bytes: long}, api.File{Bytes: long[1:]}, 1)
	wantNewer(t, api.File{Bytes: long}, api.File{Bytes: slices.Clone(long)}, 0)
}

// All short choices, in the order that the chapter tells: each stands behind those ahead of it.
func TestNewerOfAllShortChoices(t *testing.T) {
	var rising []api.File
	for _, stamp := range []int{-1, 0, 1, api.MaxStamp} {
		for _, node := range []int{-1, 0, 1, api.MaxNodes} {
			for _, isGone := range []bool{false, true} {
				for _, b := range []string{"", "a", "aa", "b"} {
					rising = append(rising, api.File{Name: "f", Stamp: stamp, Node: node, Gone: isGone, Bytes: []byte(b)})
				}
			}
		}
	}
	for i, a := range rising {
		for _, b := range rising[:i] {
			wantNewer(t, a, b, 1)
		}
		wantNewer(t, a, a, 0)
	}
}
