package name_test

import (
	"strings"
	"testing"

	"reliquary/api"
	"reliquary/name"
)

func TestJoin(t *testing.T) {
	wantJoin(t, "a", "b", "a/b", api.OK)
	wantJoin(t, "a", "b/c", "a/b/c", api.OK)
	wantJoin(t, "a/b", "c", "a/b/c", api.OK)
	wantJoin(t, "a", "./x//../b", "a/b", api.OK)
	wantJoin(t, "a/b", "c/./d//e/../../f", "a/b/c/f", api.OK)
}

func TestJoinWithoutAFolder(t *testing.T) {
	wantJoin(t, "", "a", "a", api.OK)
	wantJoin(t, "", "a/b", "a/b", api.OK)
	wantJoin(t, "", "/a", "a", api.OK)
	wantJoin(t, "", "./a/", "a", api.OK)
	wantJoin(t, "", "x/../a", "a", api.OK)
	for _, s := range []string{"", "/", ".", "./.", "//", "x/..", "x/y/../..", "x/../."} {
		wantJoin(t, "", s, "", api.ErrText)
	}
}

func TestJoinOfNothingIsTheFolder(t *testing.T) {
	for _, s := range []string{"", "/", "//", ".", "./", "/.", "././.", "x/..", "x/../", "/x/y/../..", "x/../y/.."} {
		wantJoin(t, "a", s, "a", api.OK)
		wantJoin(t, "a/b", s, "a/b", api.OK)
	}
}

func TestSlashesMore(t *testing.T) {
	for _, s := range []string{"b", "/b", "b/", "//b", "b//", "/b/", "./b", "b/.", "/./b/./", "b/c/..", "c/../b"} {
		wantJoin(t, "a", s, "a/b", api.OK)
		wantJoin(t, "", s, "b", api.OK)
	}
}

func TestUpToTheFolderAndOneMore(t *testing.T) {
	wantJoin(t, "a", "x/..", "a", api.OK)
	wantJoin(t, "a", "x/../..", "", api.ErrText)
	wantJoin(t, "a", "x/y/../../b", "a/b", api.OK)
	wantJoin(t, "a", "x/y/../../../b", "", api.ErrText)
	wantJoin(t, "a/b/c", "..", "", api.ErrText)
	wantJoin(t, "a/b/c", "../d", "", api.ErrText)
	wantJoin(t, "a/b/c", "d/../..", "", api.ErrText)
	// Coming back doesn't make it good.
	wantJoin(t, "a", "../a", "", api.ErrText)
	wantJoin(t, "a", "../a/b", "", api.ErrText)
	wantJoin(t, "a", "x/../../a/b", "", api.ErrText)
}

func TestUpWhereThereIsNone(t *testing.T) {
	for _, s := range []string{"..", "../a", "/..", "./..", "a/../..", "a/../../b", "../..", "/../a"} {
		wantJoin(t, "", s, "", api.ErrText)
	}
	wantJoin(t, "", "a/b/..", "a", api.OK)
}

// Only these two lead elsewhere.
func TestJoinOfPartsThatOnlyHaveDots(t *testing.T) {
	for _, p := range []string{"...", "....", ".a", "a.", "..a", "a..", "a.b"} {
		wantJoin(t, "f", p, "f/"+p, api.OK)
		wantJoin(t, "f", "x/"+p+"/..", "f/x", api.OK)
		wantJoin(t, p, "x", p+"/x", api.OK)
		wantJoin(t, "", p, p, api.OK)
	}
}

func TestHowLongBothMayBe(t *testing.T) {
	// As many bytes as may be that lead to a short name.
	dots := strings.Repeat("./", 78)
	wantJoin(t, "a", dots+"x/b", "a/x/b", api.OK)
	wantJoin(t, "a", dots+"x/bc", "", api.ErrMany)
	wantJoin(t, "", dots+"x/bc", "x/bc", api.OK)
	wantJoin(t, "", dots+"x/bcd", "", api.ErrMany)
	wantJoin(t, long(38), strings.Repeat("/", 121)+"x", long(38)+"/x", api.OK)
	wantJoin(t, long(38), strings.Repeat("/", 122)+"x", "", api.ErrMany)
	wantJoin(t, "a", strings.Repeat("/", 159), "a", api.OK)
	wantJoin(t, "a", strings.Repeat("/", 160), "", api.ErrMany)
	wantJoin(t, "a", strings.Repeat("/", 1000000), "", api.ErrMany)
	wantJoin(t, strings.Repeat("/", 1000000), "a", "", api.ErrMany)
}

func TestHowLongWhatIsJoinedMayBe(t *testing.T) {
	wantJoin(t, "a", long(38), "a/"+long(38), api.OK)
	wantJoin(t, "a", long(39), "", api.ErrMany)
	wantJoin(t, long(38), "b", long(38)+"/b", api.OK)
	wantJoin(t, long(38), "bc", "", api.ErrMany)
	wantJoin(t, long(39), "b", "", api.ErrMany)
	wantJoin(t, long(40), ".", long(40), api.OK)
	wantJoin(t, long(40), "b", "", api.ErrMany)
	wantJoin(t, "", long(40), long(40), api.OK)
	wantJoin(t, "", long(41), "", api.ErrMany)
	wantJoin(t, "", strings.Repeat("a/", 19)+"bc", strings.Repeat("a/", 19)+"bc", api.OK)
	wantJoin(t, "", strings.Repeat("a/", 20)+"b", "", api.ErrMany)
	// The slash between is counted, those at the end aren't.
	wantJoin(t, long(20), long(19)+"//", long(20)+"/"+long(19), api.OK)
	wantJoin(t, long(20), long(20), "", api.ErrMany)
}

func TestWrongFolders(t *testing.T) {
	for _, folder := range []string{"/", "a/", "/a", "a//b", ".", "..", "a/..", "./a", "a b", "é", " "} {
		for _, s := range []string{"", "b", "..", "x/..", long(41), " "} {
			wantJoin(t, folder, s, "", api.ErrText)
		}
	}
	for _, s := range []string{"", "b", "..", "x/..", long(41), " "} {
		wantJoin(t, long(41), s, "", api.ErrMany)
	}
}

func TestWrongParts(t *testing.T) {
	for x := range 256 {
		c := string([]byte{byte(x)})
		for _, folder := range []string{"", "f"} {
			for _, s := range []string{c, "a" + c, "a" + c + "b", "x/" + c + "/y"} {
				want, e := modelJoin(folder, s)
				wantJoin(t, folder, s, want, e)
			}
		}
		if strings.Contains(mayStand, c) {
			wantJoin(t, "f", "a"+c, "f/a"+c, api.OK)
		} else if c != "/" {
			wantJoin(t, "f", "a"+c, "", api.ErrText)
		}
	}
}

// A part that goes again is never asked for what it has.
func TestPartsThatGoAgain(t *testing.T) {
	wantJoin(t, "a", "x y/../b", "a/b", api.OK)
	wantJoin(t, "a", "é/\x00/../../b", "a/b", api.OK)
	wantJoin(t, "", " /../b", "b", api.OK)
	wantJoin(t, "a", long(100)+"/../b", "a/b", api.OK)
	wantJoin(t, "a", strings.Repeat("n/", 39)+strings.Repeat("../", 26), "a"+strings.Repeat("/n", 13), api.OK)
	wantJoin(t, "", "é/..", "", api.ErrText)
}

func TestJoinTellsTheFirst(t *testing.T) {
	// Too many together, ahead of all else.
	wantJoin(t, " ", long(160), "", api.ErrMany)
	wantJoin(t, "a", "../"+long(157), "", api.ErrMany)
	wantJoin(t, "a", " "+long(159), "", api.ErrMany)
	wantJoin(t, "", "../"+long(158), "", api.ErrMany)
	// Then the folder.
	wantJoin(t, " ", long(159), "", api.ErrText)
	wantJoin(t, long(41), "..", "", api.ErrMany)
	wantJoin(t, long(41), " ", "", api.ErrMany)
	wantJoin(t, "a//b", long(100), "", api.ErrText)
	// Then where s leads, even if what is joined is too long as well.
	wantJoin(t, "a", "../"+long(100), "", api.ErrText)
	wantJoin(t, "", "../"+long(100), "", api.ErrText)
	wantJoin(t, "a", "x/../../"+long(100), "", api.ErrText)
	// Then all together: too long ahead of how it is written.
	wantJoin(t, "a", " "+long(100), "", api.ErrMany)
	wantJoin(t, "", " "+long(40), "", api.ErrMany)
	wantJoin(t, "", " "+long(39), "", api.ErrText)
}

// heldAgainstModel: Join as the chapter says, and what is joined a name under its folder.
func heldAgainstModel(t *testing.T, folder, s string) api.Errno {
	t.Helper()
	want, wantErr := modelJoin(folder, s)
	got, e := name.Join(folder, s)
	if got != want || e != wantErr {
		t.Fatalf("Join of %q, %q: %q %v, want %q %v", folder, s, got, e, want, wantErr)
	}
	if e != api.OK {
		return e
	}
	if name.Check(got) != api.OK {
		t.Fatalf("Join of %q, %q: %q is no name", folder, s, got)
	}
	if folder == "" || got == folder {
		return e
	}
	if under, e := name.Under(got, folder); !under || e != api.OK {
		t.Fatalf("Join of %q, %q: %q doesn't lie under it: %v", folder, s, got, e)
	}
	return e
}

func TestJoinOfAllShortTexts(t *testing.T) {
	told := map[api.Errno]int{}
	folders := append(texts(3, "a", "/", "."), "b/a", "a/b/c", " ", long(37), long(38), long(40), long(41))
	for _, folder := range folders {
		for _, s := range texts(6, "a", "/", ".", "..", " ") {
			told[heldAgainstModel(t, folder, s)]++
		}
	}
	for _, e := range []api.Errno{api.OK, api.ErrText, api.ErrMany} {
		if told[e] == 0 {
			t.Errorf("the tries never have the error %v: %v", e, told)
		}
	}
}

func TestJoinOfLongTexts(t *testing.T) {
	told := map[api.Errno]int{}
	pieces := []string{"..", "..", ".", "", "a", "bc", "d.e", "...", long(10), long(30), " "}
	x := uint32(7)
	next := func(n int) int {
		x = x*1664525 + 1013904223
		return int(x>>8) % n
	}
	for range 50000 {
		var l []string
		for range next(14) {
			l = append(l, pieces[next(len(pieces))])
		}
		folder := []string{"", "a", "a/bc", "a/b/c/d", long(30), "..a"}[next(6)]
		told[heldAgainstModel(t, folder, strings.Join(l, "/"))]++
	}
	for _, e := range []api.Errno{api.OK, api.ErrText, api.ErrMany} {
		if told[e] == 0 {
			t.Errorf("the tries never have the error %v: %v", e, told)
		}
	}
}

// A name is joined to itself, and to its folder and its last part.
func TestJoinOfNames(t *testing.T) {
	for _, s := range texts(7, "a", "/", ".", "-") {
		parts, e := name.Parts(s)
		if e != api.OK {
			continue
		}
		last := len(parts) - 1
		wantJoin(t, "", s, s, api.OK)
		wantJoin(t, s, "", s, api.OK)
		wantJoin(t, strings.Join(parts[:last], "/"), parts[last], s, api.OK)
	}
}
