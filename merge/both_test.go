package merge_test

import (
	"fmt"
	"slices"
	"strings"
	"testing"

	"reliquary/api"
	"reliquary/merge"
)

func wantBoth(t *testing.T, a, b, want []api.File, wantErr api.Errno) {
	t.Helper()
	got, e := merge.Both(a, b)
	wantFiles(t, fmt.Sprintf("Both of %s, %s", short(a), short(b)), got, e, want, wantErr)
}

// wantBothWays: Both, whichever of them is named first.
func wantBothWays(t *testing.T, a, b, want []api.File) {
	t.Helper()
	wantBoth(t, a, b, want, api.OK)
	wantBoth(t, b, a, want, api.OK)
}

func wantPut(t *testing.T, l []api.File, f api.File, want []api.File, wantErr api.Errno) {
	t.Helper()
	got, e := merge.Put(l, f)
	wantFiles(t, fmt.Sprintf("Put of %s, %s", short(l), short(files(f))), got, e, want, wantErr)
}

func wantShown(t *testing.T, l, want []api.File, wantErr api.Errno) {
	t.Helper()
	got, e := merge.Shown(l)
	wantFiles(t, fmt.Sprintf("Shown of %s", short(l)), got, e, want, wantErr)
}

func wantLess(t *testing.T, a, b, want []api.File, wantErr api.Errno) {
	t.Helper()
	got, e := merge.Less(a, b)
	wantFiles(t, fmt.Sprintf("Less of %s, %s", short(a), short(b)), got, e, want, wantErr)
}

// parted: pairs of files of one name; in each the first one is the newer one, and parted from the other one by one
// thing, with all that counts less against it.
func parted(name string) [][2]api.File {
	return [][2]api.File{
		{put(name, 6, 0, ""), put(name, 5, 3, "z")},
		{put(name, 6, 1, "x"), put(name, 5, 1, "x")},
		{put(name, 6, 0, ""), gone(name, 5, 3)},
		{put(name, api.MaxStamp, 0, ""), put(name, api.MaxStamp-1, api.MaxNodes-1, "z")},
		{put(name, 1, 0, ""), gone(name, 0, api.MaxNodes-1)},
		{put(name, 5, 2, ""), put(name, 5, 1, "z")},
		{put(name, 5, 2, "x"), put(name, 5, 1, "x")},
		{put(name, 5, api.MaxNodes-1, ""), gone(name, 5, 0)},
		{gone(name, 5, 2), put(name, 5, 2, "z")},
		{gone(name, 5, 2), put(name, 5, 2, "")},
		{put(name, 5, 2, "b"), put(name, 5, 2, "a")},
		{put(name, 5, 2, "a"), put(name, 5, 2, "")},
		{put(name, 5, 2, "b"), put(name, 5, 2, strings.Repeat("a", api.MaxBytes))},
	}
}

// P10.2: Both, Put

func TestBoth(t *testing.T) {
	a := files(put("a", 1, 0, ""), put("b", 2, 1, "x"))
	b := files(gone("b", 2, 2), put("c", 0, 0, ""))
	wantBothWays(t, a, b, files(a[0], b[0], b[1]))
	// Files at two nodes, put there at one moment.
	wantBothWays(t, files(put("f", 7, 1, "of 1")), files(put("f", 7, 2, "of 2")), files(put("f", 7, 2, "of 2")))
}

func TestBothOfNone(t *testing.T) {
	l := files(put("a", 1, 0, "x"), gone("b", 2, 1))
	for _, none := range [][]api.File{nil, {}, l[:0]} {
		wantBothWays(t, none, l, l)
		wantBothWays(t, none, nil, nil)
		wantBothWays(t, none, files(), nil)
	}
}

func TestBothOfNamesThatOnlyOneHas(t *testing.T) {
	wantBothWays(t, named("a"), named("b"), named("a", "b"))
	wantBothWays(t, named("a", "b"), named("c", "d"), named("a", "b", "c", "d"))
	wantBothWays(t, named("a", "d"), named("b", "c"), named("a", "b", "c", "d"))
	wantBothWays(t, named("a", "c", "e"), named("b", "d", "f"), named("a", "b", "c", "d", "e", "f"))
	wantBothWays(t, named("a/b", "b"), named("a", "a.b", "aa"), named("a", "a.b", "a/b", "aa", "b"))
	// What is gone stays in the list.
	wantBothWays(t, files(gone("a", 1, 1)), files(put("b", 0, 0, "x")), files(gone("a", 1, 1), put("b", 0, 0, "x")))
}

func TestBothOfNamesThatBothHave(t *testing.T) {
	for _, p := range parted("m") {
		newer, older := p[0], p[1]
		wantBothWays(t, files(newer), files(older), files(newer))
		wantBothWays(t, files(newer), files(newer), files(newer))
		wantBothWays(t, files(older), files(older), files(older))
		a, z, n := put("a", 1, 1, "a"), gone("z", 2, 2), put("n", 3, 3, "n")
		wantBothWays(t, files(a, newer, z), files(older), files(a, newer, z))
		wantBothWays(t, files(a, older, z), files(newer), files(a, newer, z))
		wantBothWays(t, files(a, older), files(newer, z), files(a, newer, z))
		wantBothWays(t, files(newer, z), files(a, older, n), files(a, newer, n, z))
	}
}

// The newer one of each name is taken, wherever the others come from.
func TestBothTakesFromBothSides(t *testing.T) {
	a := files(put("a", 2, 0, "a"), put("b", 1, 0, "a"), put("c", 2, 0, "a"), put("d", 1, 0, "a"))
	b := files(put("a", 1, 0, "b"), put("b", 2, 0, "b"), put("c", 1, 0, "b"), put("d", 2, 0, "b"))
	wantBothWays(t, a, b, files(a[0], b[1], a[2], b[3]))
}

func TestHowManyBothMayBe(t *testing.T) {
	for n := range api.MaxFiles + 1 {
		wantBothWays(t, many(n, "a"), many(api.MaxFiles-n, "b"), append(many(n, "a"), many(api.MaxFiles-n, "b")...))
	}
	for n := 1; n <= api.MaxFiles; n++ {
		wantBoth(t, many(n, "a"), many(api.MaxFiles+1-n, "b"), nil, api.ErrFull)
		wantBoth(t, many(n, "b"), many(api.MaxFiles+1-n, "a"), nil, api.ErrFull)
	}
	wantBoth(t, many(api.MaxFiles, "a"), many(api.MaxFiles, "b"), nil, api.ErrFull)
	// Names that both have count once.
	wantBothWays(t, many(api.MaxFiles, "a"), many(api.MaxFiles, "a"), many(api.MaxFiles, "a"))
	wantBothWays(t, many(api.MaxFiles, "a"), many(3, "a"), many(api.MaxFiles, "a"))
	wantBoth(t, many(api.MaxFiles, "a"), append(many(3, "a"), api.File{Name: "z"}), nil, api.ErrFull)
	wantBoth(t, append(named("A"), many(3, "a")...), many(api.MaxFiles, "a"), nil, api.ErrFull)
	// Gone files count.
	wantBoth(t, many(api.MaxFiles, "a"), files(gone("z", 1, 1)), nil, api.ErrFull)
}

func TestPut(t *testing.T) {
	l := files(put("b", 1, 0, "x"), put("d", 1, 0, "y"))
	for _, n := range []string{"a", "c", "e"} {
		f := put(n, 0, 0, "new")
		want := append(slices.Clone(l), f)
		slices.SortFunc(want, func(a, b api.File) int { return strings.Compare(a.Name, b.Name) })
		wantPut(t, l, f, want, api.OK)
	}
	wantPut(t, nil, put("a", 1, 1, "x"), files(put("a", 1, 1, "x")), api.OK)
	wantPut(t, files(), gone("a", 1, 1), files(gone("a", 1, 1)), api.OK)
	wantPut(t, l, gone("d", 2, 0), files(l[0], gone("d", 2, 0)), api.OK)
}

func TestPutOfANameThatIsThere(t *testing.T) {
	for _, p := range parted("m") {
		newer, older := p[0], p[1]
		a, z := put("a", 1, 1, "a"), gone("z", 2, 2)
		wantPut(t, files(a, older, z), newer, files(a, newer, z), api.OK)
		wantPut(t, files(a, newer, z), older, files(a, newer, z), api.OK)
		wantPut(t, files(a, newer, z), newer, files(a, newer, z), api.OK)
		wantPut(t, files(older), newer, files(newer), api.OK)
		wantPut(t, files(newer), older, files(newer), api.OK)
	}
}

func TestHowManyPutMayMake(t *testing.T) {
	l := many(api.MaxFiles, "f")
	f := put("g", 1, 1, "x")
	wantPut(t, l[1:], f, append(slices.Clone(l[1:]), f), api.OK)
	wantPut(t, l, f, nil, api.ErrFull)
	wantPut(t, l, gone("a", 0, 0), nil, api.ErrFull)
	// One that is there takes no room, newer or older.
	newer := put("f03", 100, 0, "new")
	want := slices.Clone(l)
	want[3] = newer
	wantPut(t, l, newer, want, api.OK)
	wantPut(t, want, l[3], want, api.OK)
}

// P10.3

func TestShown(t *testing.T) {
	a, b, c := put("a", 1, 1, "x"), gone("b", 2, 2), put("c", 3, 3, "")
	wantShown(t, nil, nil, api.OK)
	wantShown(t, files(), nil, api.OK)
	wantShown(t, files(a, b, c), files(a, c), api.OK)
	wantShown(t, files(a, c), files(a, c), api.OK)
	wantShown(t, files(b), nil, api.OK)
	wantShown(t, files(gone("a", 0, 0), b), nil, api.OK)
	wantShown(t, files(b, c), files(c), api.OK)
	wantShown(t, files(a, b), files(a), api.OK)
	wantShown(t, many(api.MaxFiles, "f"), many(api.MaxFiles, "f"), api.OK)
	wantShown(t, many(api.MaxFiles+1, "f"), nil, api.ErrMany)
}

func TestLess(t *testing.T) {
	a := files(put("a", 1, 0, ""), put("b", 2, 1, "x"))
	b := files(gone("b", 2, 2), put("c", 0, 0, ""))
	wantLess(t, b, a, b, api.OK)
	wantLess(t, a, b, a[:1], api.OK)
	wantLess(t, a, a, nil, api.OK)
	wantLess(t, a, files(a[0], b[0], b[1]), nil, api.OK)
}

func TestLessOfNone(t *testing.T) {
	l := files(put("a", 1, 0, "x"), gone("b", 0, 0))
	wantLess(t, nil, nil, nil, api.OK)
	wantLess(t, files(), nil, nil, api.OK)
	wantLess(t, nil, l, nil, api.OK)
	wantLess(t, l, nil, l, api.OK)
	wantLess(t, l, files(), l, api.OK)
	wantLess(t, many(api.MaxFiles, "a"), many(api.MaxFiles, "b"), many(api.MaxFiles, "a"), api.OK)
	wantLess(t, many(api.MaxFiles, "a"), many(api.MaxFiles, "a"), nil, api.OK)
}

func TestLessOfNamesThatBothHave(t *testing.T) {
	for _, p := range parted("m") {
		newer, older := p[0], p[1]
		wantLess(t, files(newer), files(older), files(newer), api.OK)
		wantLess(t, files(older), files(newer), nil, api.OK)
		wantLess(t, files(newer), files(newer), nil, api.OK)
		a, n, z := put("a", 1, 1, "a"), put("n", 3, 3, "n"), gone("z", 2, 2)
		wantLess(t, files(a, newer, z), files(a, older, z), files(newer), api.OK)
		wantLess(t, files(a, older, z), files(a, newer, z), nil, api.OK)
		wantLess(t, files(a, newer, z), files(older, n), files(a, newer, z), api.OK)
		wantLess(t, files(a, older, z), files(newer, n), files(a, z), api.OK)
		wantLess(t, files(newer, n), files(a, n, z), files(newer), api.OK)
	}
}

// Wrong inputs

// wrongLists: lists that Check refuses, at their first, a middle and their last file.
func wrongLists() map[string][]api.File {
	lists := map[string][]api.File{
		"too many": many(api.MaxFiles+1, "f"),
		"twice":    named("a", "a"),
		"falling":  named("b", "a"),
	}
	for _, d := range allDefects() {
		for i := range 3 {
			l := named("a", "b", "c")
			d.change(&l[i])
			lists[fmt.Sprint(d.what, " ", i)] = l
		}
	}
	return lists
}

func TestWrongLists(t *testing.T) {
	right := files(put("a", 1, 1, "x"), gone("b", 2, 2))
	for what, l := range wrongLists() {
		e := merge.Check(l)
		if e == api.OK {
			t.Errorf("%s: Check takes it", what)
		}
		for _, other := range [][]api.File{nil, right, many(api.MaxFiles, "f")} {
			wantBoth(t, l, other, nil, e)
			wantBoth(t, other, l, nil, e)
			wantLess(t, l, other, nil, e)
			wantLess(t, other, l, nil, e)
		}
		wantPut(t, l, right[0], nil, e)
		wantShown(t, l, nil, e)
	}
}

func TestErrorOfTheFirstList(t *testing.T) {
	for _, a := range wrongLists() {
		e := merge.Check(a)
		for _, b := range wrongLists() {
			wantBoth(t, a, b, nil, e)
			wantLess(t, a, b, nil, e)
		}
		for _, d := range allDefects() {
			wantPut(t, a, with(put("a", 1, 1, ""), d.change), nil, e)
		}
	}
}

func TestPutOfAWrongFile(t *testing.T) {
	for _, d := range allDefects() {
		f := with(put("a", 1, 1, ""), d.change)
		wantPut(t, nil, f, nil, d.err)
		wantPut(t, named("a", "b"), f, nil, d.err)
		wantPut(t, named("b"), f, nil, d.err)
		// Told ahead of there being no room.
		wantPut(t, many(api.MaxFiles, "f"), f, nil, d.err)
	}
}

// A file may be put whatever the names of the others are: it is a list of its own.
func TestPutAheadAndBehind(t *testing.T) {
	wantPut(t, named("b"), api.File{Name: "a"}, named("a", "b"), api.OK)
	wantPut(t, named("b"), api.File{Name: "b"}, named("b"), api.OK)
	wantPut(t, named("b"), api.File{Name: "c"}, named("b", "c"), api.OK)
}
