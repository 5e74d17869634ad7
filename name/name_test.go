package name_test

import (
	"slices"
	"strings"
	"testing"

	"reliquary/api"
	"reliquary/name"
)

// mayStand: the bytes that may stand in a part, one by one.
const mayStand = "abcdefghijklmnopqrstuvwxyzABCDEFGHIJKLMNOPQRSTUVWXYZ0123456789._-"

// modelParts: Parts by the chapter's words, byte by byte.
func modelParts(s string) ([]string, api.Errno) {
	if len(s) > 40 {
		return nil, api.ErrMany
	}
	parts, part := []string{}, ""
	for _, c := range []byte(s + "/") {
		if c != '/' {
			part += string([]byte{c})
			continue
		}
		parts = append(parts, part)
		part = ""
	}
	for _, p := range parts {
		if p == "" || p == "." || p == ".." {
			return nil, api.ErrText
		}
		for _, c := range []byte(p) {
			if strings.IndexByte(mayStand, c) < 0 {
				return nil, api.ErrText
			}
		}
	}
	return parts, api.OK
}

// modelUnder: Under by the chapter's words.
func modelUnder(s, folder string) (bool, api.Errno) {
	if _, e := modelParts(s); e != api.OK {
		return false, e
	}
	if _, e := modelParts(folder); e != api.OK {
		return false, e
	}
	return len(s) > len(folder) && s[:len(folder)] == folder && s[len(folder)] == '/', api.OK
}

// modelJoin: Join by the chapter's words: folder's parts stand apart from those of s.
func modelJoin(folder, s string) (string, api.Errno) {
	if len(folder)+len(s) > 160 {
		return "", api.ErrMany
	}
	own, rest := []string{}, []string{}
	if folder != "" {
		parts, e := modelParts(folder)
		if e != api.OK {
			return "", e
		}
		own = parts
	}
	for s != "" {
		p, behind, _ := strings.Cut(s, "/")
		s = behind
		if p == ".." {
			if len(rest) == 0 {
				return "", api.ErrText
			}
			rest = slices.Delete(rest, len(rest)-1, len(rest))
		} else if p != "" && p != "." {
			rest = append(rest, p)
		}
	}
	whole := ""
	for i, p := range append(own, rest...) {
		if i > 0 {
			whole += "/"
		}
		whole += p
	}
	if _, e := modelParts(whole); e != api.OK {
		return "", e
	}
	return whole, api.OK
}

// wantParts: Parts and Check must tell the same; no list with an error.
func wantParts(t *testing.T, s string, want []string, wantErr api.Errno) {
	t.Helper()
	got, e := name.Parts(s)
	if !slices.Equal(got, want) || e != wantErr || e != api.OK && got != nil {
		t.Errorf("Parts of %q: %q %v, want %q %v", s, got, e, want, wantErr)
	}
	if e := name.Check(s); e != wantErr {
		t.Errorf("Check of %q: %v, want %v", s, e, wantErr)
	}
}

func wantWrong(t *testing.T, s string, want api.Errno) {
	t.Helper()
	wantParts(t, s, nil, want)
}

func wantUnder(t *testing.T, s, folder string, want bool, wantErr api.Errno) {
	t.Helper()
	if got, e := name.Under(s, folder); got != want || e != wantErr {
		t.Errorf("Under of %q, %q: %v %v, want %v %v", s, folder, got, e, want, wantErr)
	}
}

func wantJoin(t *testing.T, folder, s, want string, wantErr api.Errno) {
	t.Helper()
	if got, e := name.Join(folder, s); got != want || e != wantErr {
		t.Errorf("Join of %q, %q: %q %v, want %q %v", folder, s, got, e, want, wantErr)
	}
}

// long: so many bytes, a part.
func long(many int) string { return strings.Repeat("n", many) }

// texts: all of up to so many pieces of these.
func texts(many int, pieces ...string) []string {
	all, last := []string{""}, []string{""}
	for range many {
		var next []string
		for _, s := range last {
			for _, p := range pieces {
				next = append(next, s+p)
			}
		}
		all = append(all, next...)
		last = next
	}
	return all
}

func TestParts(t *testing.T) {
	wantParts(t, "a", []string{"a"}, api.OK)
	wantParts(t, "a/b.c/_-", []string{"a", "b.c", "_-"}, api.OK)
	wantParts(t, "Read.Me/0/9/z/Z", []string{"Read.Me", "0", "9", "z", "Z"}, api.OK)
	wantParts(t, "x/x/x", []string{"x", "x", "x"}, api.OK)
}

func TestEmptyParts(t *testing.T) {
	for _, s := range []string{"", "/", "//", "/a", "a/", "a//b", "a/b/", "/a/b", "a/b//", "//a", "a///b"} {
		wantWrong(t, s, api.ErrText)
	}
}

func TestPartsThatLeadElsewhere(t *testing.T) {
	for _, dots := range []string{".", ".."} {
		for _, s := range []string{dots, dots + "/a", "a/" + dots, "a/" + dots + "/b", dots + "/" + dots, "/" + dots, dots + "/"} {
			wantWrong(t, s, api.ErrText)
		}
	}
}

func TestPartsThatOnlyHaveDots(t *testing.T) {
	for _, p := range []string{"...", "....", ".a", "a.", "..a", "a..", ".a.", "..a..", "a.b", "a..b", "._", "..-", ".0", "0."} {
		wantParts(t, p, []string{p}, api.OK)
		wantParts(t, p+"/x/"+p, []string{p, "x", p}, api.OK)
	}
}

func TestHowLongANameMayBe(t *testing.T) {
	for _, many := range []int{1, 2, api.MaxName - 1, api.MaxName} {
		wantParts(t, long(many), []string{long(many)}, api.OK)
	}
	for _, many := range []int{api.MaxName + 1, api.MaxName + 2, 4 * api.MaxName, 100000} {
		wantWrong(t, long(many), api.ErrMany)
	}
	wantParts(t, strings.Repeat("a/", 19)+"bc", append(slices.Repeat([]string{"a"}, 19), "bc"), api.OK)
	wantWrong(t, strings.Repeat("a/", 19)+"bcd", api.ErrMany)
	// Bytes are counted: 20 letters of two bytes each are as many as may be, though they may not stand.
	wantWrong(t, strings.Repeat("é", 20), api.ErrText)
	wantWrong(t, strings.Repeat("é", 21), api.ErrMany)
}

func TestEachByte(t *testing.T) {
	for x := range 256 {
		c := string([]byte{byte(x)})
		for _, ends := range [][2]string{{"", "b"}, {"a", ""}, {"a", "b"}, {"a/b", "c/d"}, {"", strings.Repeat("z", 39)}, {strings.Repeat("z", 39), ""}} {
			s := ends[0] + c + ends[1]
			switch {
			case strings.Contains(mayStand, c):
				wantParts(t, s, strings.Split(s, "/"), api.OK)
			case c == "/" && ends[0] != "" && ends[1] != "":
				wantParts(t, s, strings.Split(s, "/"), api.OK)
			default:
				wantWrong(t, s, api.ErrText)
			}
		}
		if strings.Contains(mayStand, c) && c != "." {
			wantParts(t, c, []string{c}, api.OK)
		} else {
			wantWrong(t, c, api.ErrText)
		}
	}
}

// Letters are those of the chapter, not all that are called so elsewhere.
func TestOtherLetters(t *testing.T) {
	for _, s := range []string{"\u00e9", "\u00df", "\u0430", "\u212a", "\u0663", "\uff21", "a\u0301", "a\u200bb", "a\x00", "\\", "a\\b", "C:", "~", "a b", " a", "a ", "a\nb", "*", "a\xff", "\xc3", "a|b", "(a)"} {
		wantWrong(t, s, api.ErrText)
		wantWrong(t, "x/"+s+"/y", api.ErrText)
	}
}

func TestTooLongIsToldFirst(t *testing.T) {
	for _, s := range []string{"/", "../", " ", "\u00e9", "a//", "\x00"} {
		wantWrong(t, s+long(api.MaxName-len(s)), api.ErrText)
		wantWrong(t, s+long(api.MaxName-len(s)+1), api.ErrMany)
		wantWrong(t, long(api.MaxName-len(s))+s, api.ErrText)
		wantWrong(t, long(api.MaxName-len(s)+1)+s, api.ErrMany)
	}
	wantWrong(t, strings.Repeat("/", api.MaxName), api.ErrText)
	wantWrong(t, strings.Repeat("/", api.MaxName+1), api.ErrMany)
}

func TestAllShortTexts(t *testing.T) {
	told := map[api.Errno]int{}
	for _, s := range texts(7, "a", ".", "/", "-", " ") {
		want, e := modelParts(s)
		told[e]++
		got, gotErr := name.Parts(s)
		if !slices.Equal(got, want) || gotErr != e || name.Check(s) != e || e != api.OK && got != nil {
			t.Fatalf("%q: %q %v, want %q %v", s, got, gotErr, want, e)
		}
		if e == api.OK && strings.Join(got, "/") != s {
			t.Fatalf("%q: the parts %q aren't those of it", s, got)
		}
	}
	if told[api.OK] == 0 || told[api.ErrText] == 0 {
		t.Errorf("the texts are all alike: %v", told)
	}
}

func TestUnder(t *testing.T) {
	wantUnder(t, "a/b", "a", true, api.OK)
	wantUnder(t, "a/b/c", "a", true, api.OK)
	wantUnder(t, "a/b/c", "a/b", true, api.OK)
	wantUnder(t, "a/b", "b", false, api.OK)
	wantUnder(t, "x/a/b", "a", false, api.OK)
	wantUnder(t, "a/b", "a/c", false, api.OK)
	wantUnder(t, "a", "a/b", false, api.OK)
	wantUnder(t, "A/b", "a", false, api.OK)
	wantUnder(t, "a/b", "A", false, api.OK)
}

func TestUnderOfANameAndItself(t *testing.T) {
	for _, s := range []string{"a", "a/b", "a/a", long(api.MaxName)} {
		wantUnder(t, s, s, false, api.OK)
	}
	wantUnder(t, "a/a", "a", true, api.OK)
}

func TestUnderOfAFolderAndASlashMore(t *testing.T) {
	wantUnder(t, "a/", "a", false, api.ErrText)
	wantUnder(t, "a", "a/", false, api.ErrText)
	wantUnder(t, "a/b", "a/", false, api.ErrText)
	wantUnder(t, "a//b", "a", false, api.ErrText)
	wantUnder(t, "/a", "a", false, api.ErrText)
}

func TestUnderOfAFolderWhoseLettersBeginAnother(t *testing.T) {
	wantUnder(t, "ab", "a", false, api.OK)
	wantUnder(t, "ab/c", "a", false, api.OK)
	wantUnder(t, "a.b", "a", false, api.OK)
	wantUnder(t, "a-/b", "a", false, api.OK)
	wantUnder(t, "a/bc/d", "a/b", false, api.OK)
	wantUnder(t, "a/bc", "a/b", false, api.OK)
}

func TestUnderOfNoFolder(t *testing.T) {
	wantUnder(t, "a", "", false, api.ErrText)
	wantUnder(t, "", "a", false, api.ErrText)
	wantUnder(t, "", "", false, api.ErrText)
}

func TestUnderOfLongNames(t *testing.T) {
	wantUnder(t, long(38)+"/b", long(38), true, api.OK)
	wantUnder(t, long(38)+"/b", long(37), false, api.OK)
	wantUnder(t, long(39)+"/b", long(39), false, api.ErrMany)
	wantUnder(t, long(40), long(41), false, api.ErrMany)
	wantUnder(t, long(41), long(40), false, api.ErrMany)
	wantUnder(t, "a", long(40), false, api.OK)
}

// Of two that are wrong s is told.
func TestUnderTellsTheFirst(t *testing.T) {
	wantUnder(t, "a b", long(41), false, api.ErrText)
	wantUnder(t, long(41), "a b", false, api.ErrMany)
	wantUnder(t, "", long(41), false, api.ErrText)
	wantUnder(t, long(41), "", false, api.ErrMany)
	wantUnder(t, long(41), "n", false, api.ErrMany)
	wantUnder(t, "n", long(41), false, api.ErrMany)
	wantUnder(t, "n", "n ", false, api.ErrText)
	wantUnder(t, "../n", "..", false, api.ErrText)
}

func TestUnderOfAllShortTexts(t *testing.T) {
	l := append(texts(4, "a", "b", "/", "."), long(40), long(41), " ")
	for _, s := range l {
		for _, folder := range l {
			want, wantErr := modelUnder(s, folder)
			if got, e := name.Under(s, folder); got != want || e != wantErr {
				t.Fatalf("Under of %q, %q: %v %v, want %v %v", s, folder, got, e, want, wantErr)
			}
		}
	}
}

func TestListsStayApart(t *testing.T) {
	first, _ := name.Parts("a/b/c")
	second, _ := name.Parts("a/b/c")
	clear(first[:cap(first)])
	if !slices.Equal(second, []string{"a", "b", "c"}) {
		t.Errorf("two answers share memory: %q", second)
	}
	third, _ := name.Parts("a/b/c")
	if !slices.Equal(third, second) {
		t.Errorf("the answers are not alike: %q, %q", second, third)
	}
}

func TestAnswersHangOnArgumentsAlone(t *testing.T) {
	for range 3 {
		wantParts(t, "a/b", []string{"a", "b"}, api.OK)
		wantWrong(t, long(41), api.ErrMany)
		wantWrong(t, "a//b", api.ErrText)
		wantUnder(t, "a/b", "a", true, api.OK)
		wantUnder(t, "a/b", "", false, api.ErrText)
		wantJoin(t, "a", "x/../b", "a/b", api.OK)
		wantJoin(t, "a", "../b", "", api.ErrText)
		wantJoin(t, long(80), long(81), "", api.ErrMany)
	}
}
