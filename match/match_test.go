package match_test

import (
	"bytes"
	"math"
	"slices"
	"testing"

	"reliquary/api"
	"reliquary/match"
)

// byteOf: the token of a byte.
func byteOf(c byte) api.Token { return api.Token{Byte: c} }

// back: the token of bytes that stood ahead.
func back(same, far int) api.Token { return api.Token{Same: same, Far: far} }

// bytesOf: the tokens of bytes, each alone.
func bytesOf(s string) []api.Token {
	l := []api.Token{}
	for i := range len(s) {
		l = append(l, byteOf(s[i]))
	}
	return l
}

// with: these tokens behind those of the bytes.
func with(s string, l ...api.Token) []api.Token { return append(bytesOf(s), l...) }

// noise: bytes of so many kinds.
func noise(many, kinds int, seed uint32) []byte {
	b := make([]byte, many)
	x := seed
	for i := range b {
		x = x*1664525 + 1013904223
		b[i] = byte(int(x>>8) % kinds)
	}
	return b
}

// allBytes: all lists of so many bytes of so many kinds.
func allBytes(many, kinds int) [][]byte {
	if many == 0 {
		return [][]byte{{}}
	}
	var all [][]byte
	for _, b := range allBytes(many-1, kinds) {
		for c := range kinds {
			all = append(all, append(slices.Clone(b), 'a'+byte(c)))
		}
	}
	return all
}

// longest: what Longest must say, by trying each place ahead, the nearest first.
func longest(b []byte, k int) (n, far int) {
	for f := 1; f <= k; f++ {
		same := 0
		for k+same < len(b) && same < 258 && b[k+same] == b[k+same-f] {
			same++
		}
		if same > n {
			n, far = same, f
		}
	}
	if n < 3 {
		return 0, 0
	}
	return n, far
}

// tokens: what Tokens must say.
func tokens(b []byte) []api.Token {
	var l []api.Token
	for k := 0; k < len(b); {
		n, far := longest(b, k)
		next := 0
		if k+1 < len(b) {
			next, _ = longest(b, k+1)
		}
		if n == 0 || next > n {
			l = append(l, byteOf(b[k]))
			k++
			continue
		}
		l = append(l, back(n, far))
		k += n
	}
	return l
}

func wantCheck(t *testing.T, what string, l []api.Token, want api.Errno) {
	t.Helper()
	if e := match.Check(l); e != want {
		t.Errorf("Check of %s: %d, want %d", what, e, want)
	}
	b, e := match.Expand(l)
	if e != want {
		t.Errorf("Expand of %s: %d, want %d", what, e, want)
	}
	if want != api.OK && b != nil {
		t.Errorf("Expand of %s: an error, and %d bytes", what, len(b))
	}
}

func wantBytes(t *testing.T, l []api.Token, want string) {
	t.Helper()
	if b, e := match.Expand(l); e != api.OK || string(b) != want {
		t.Errorf("Expand(%v): %q, %d, want %q", l, b, e, want)
	}
}

func wantLongest(t *testing.T, b []byte, k, n, far int, e api.Errno) {
	t.Helper()
	gotN, gotFar, gotE := match.Longest(b, k)
	if gotN != n || gotFar != far || gotE != e {
		t.Errorf("Longest(%d bytes %.40q, %d): %d %d %d, want %d %d %d", len(b), b, k, gotN, gotFar, gotE, n, far, e)
	}
}

func wantTokens(t *testing.T, b []byte, want []api.Token) {
	t.Helper()
	l, e := match.Tokens(b)
	if e != api.OK || !slices.Equal(l, want) {
		t.Errorf("Tokens(%d bytes %.40q): %v, %d, want %v", len(b), b, l, e, want)
	}
}

// wantBack: Expand of Tokens is the bytes (P4.4).
func wantBack(t *testing.T, b []byte) {
	t.Helper()
	l, e := match.Tokens(b)
	if e != api.OK {
		t.Fatalf("Tokens(%d bytes): %d", len(b), e)
	}
	if e := match.Check(l); e != api.OK {
		t.Errorf("Check of Tokens(%d bytes %.40q): %d", len(b), b, e)
	}
	if got, e := match.Expand(l); e != api.OK || !bytes.Equal(got, b) {
		t.Errorf("Expand of Tokens(%d bytes %.40q): %d bytes, %d", len(b), b, len(got), e)
	}
}

// P4.1

func TestCheckSame(t *testing.T) {
	for _, c := range []struct {
		same int
		want api.Errno
	}{
		{3, api.OK}, {4, api.OK}, {257, api.OK}, {258, api.OK},
		{2, api.ErrRange}, {1, api.ErrRange}, {259, api.ErrRange}, {-1, api.ErrRange}, {-3, api.ErrRange},
		{math.MaxInt, api.ErrRange}, {math.MinInt, api.ErrRange},
		{0, api.ErrForm},
	} {
		wantCheck(t, "Same at an edge", with("a", back(c.same, 1)), c.want)
	}
}

func TestCheckFar(t *testing.T) {
	for _, c := range []struct {
		far  int
		want api.Errno
	}{
		{1, api.OK}, {4, api.OK}, {5, api.OK},
		{6, api.ErrFar}, {3000, api.ErrFar}, {3001, api.ErrFar}, {math.MaxInt, api.ErrFar},
		{0, api.ErrRange}, {-1, api.ErrRange}, {math.MinInt, api.ErrRange},
	} {
		wantCheck(t, "Far behind bytes", with("abcde", back(3, c.far)), c.want)
		wantCheck(t, "Far behind a byte and a row", with("a", back(4, 1), back(3, c.far)), c.want)
	}
	wantCheck(t, "a row behind nothing", []api.Token{back(3, 1)}, api.ErrFar)
	wantCheck(t, "a row behind nothing, Far 0", []api.Token{back(3, 0)}, api.ErrRange)
}

func TestCheckForm(t *testing.T) {
	wantCheck(t, "nil", nil, api.OK)
	wantCheck(t, "no tokens", []api.Token{}, api.OK)
	wantCheck(t, "a byte 0", []api.Token{{}}, api.OK)
	wantCheck(t, "a byte 255", []api.Token{{Byte: 255}}, api.OK)
	for _, far := range []int{1, -1, 2, 3000, math.MinInt, math.MaxInt} {
		wantCheck(t, "a byte with Far", with("ab", api.Token{Byte: 'c', Far: far}), api.ErrForm)
		wantCheck(t, "a byte 0 with Far", with("ab", api.Token{Far: far}), api.ErrForm)
	}
	for _, same := range []int{3, 258, 2, -1, 259, math.MinInt, math.MaxInt} {
		for _, far := range []int{1, 2, 0, -1, 3, math.MaxInt} {
			// The form is told ahead of the range, and of how far.
			wantCheck(t, "a row with Byte", with("ab", api.Token{Byte: 1, Same: same, Far: far}), api.ErrForm)
		}
	}
}

func TestCheckTellsTheRangeAheadOfFar(t *testing.T) {
	for _, same := range []int{-1, 1, 2, 259} {
		for _, far := range []int{-1, 0, 1, 2, 5000} {
			wantCheck(t, "a wrong Same", with("a", back(same, far)), api.ErrRange)
		}
	}
}

func TestCheckTellsTheFirstToken(t *testing.T) {
	form, rang, far := api.Token{Byte: 1, Same: 3, Far: 1}, back(2, 1), back(3, 9)
	wantCheck(t, "far, form", with("a", far, form), api.ErrFar)
	wantCheck(t, "far, range", with("a", far, rang), api.ErrFar)
	wantCheck(t, "range, form", with("a", rang, form), api.ErrRange)
	wantCheck(t, "range, far", with("a", rang, far), api.ErrRange)
	wantCheck(t, "form, far", with("a", form, far), api.ErrForm)
	wantCheck(t, "far behind what comes later", []api.Token{back(3, 1), byteOf('a')}, api.ErrFar)
}

func TestCheckOfManyTokens(t *testing.T) {
	l := slices.Repeat(bytesOf("a"), 3000)
	wantCheck(t, "3000 bytes", l, api.OK)
	wantCheck(t, "3001 bytes", append(slices.Clone(l), byteOf('a')), api.ErrMany)
	wantCheck(t, "3001 tokens, the first wrong", append([]api.Token{{Far: 1}}, l...), api.ErrMany)
	wantCheck(t, "3000 tokens, the last wrong", append(slices.Clone(l[1:]), api.Token{Far: 1}), api.ErrForm)
	wantCheck(t, "3000 rows", append(bytesOf("a"), slices.Repeat([]api.Token{back(258, 1)}, 2999)...), api.ErrMany)
}

func TestCheckOfManyBytes(t *testing.T) {
	// 1 + 11*258 = 2839 bytes; 161 more are as many as may be.
	l := append(bytesOf("a"), slices.Repeat([]api.Token{back(258, 1)}, 11)...)
	whole := append(slices.Clone(l), back(161, 2839))
	wantCheck(t, "3000 bytes by rows", whole, api.OK)
	wantCheck(t, "3001 bytes by a row", append(slices.Clone(l), back(162, 2839)), api.ErrMany)
	over := append(slices.Clone(whole), byteOf('b'))
	wantCheck(t, "3001 bytes by a byte", over, api.ErrMany)
	// What is wrong with a token is told ahead of the bytes being too many.
	wantCheck(t, "too many, then a wrong form", append(slices.Clone(over), api.Token{Far: 1}), api.ErrForm)
	wantCheck(t, "too many, then a wrong Same", append(slices.Clone(over), back(2, 1)), api.ErrRange)
	wantCheck(t, "too many, then too far", append(slices.Clone(over), back(3, 3002)), api.ErrFar)
	wantCheck(t, "too many, then just as far", append(slices.Clone(over), back(3, 3001)), api.ErrMany)
}

func TestExpand(t *testing.T) {
	wantBytes(t, nil, "")
	wantBytes(t, []api.Token{}, "")
	wantBytes(t, []api.Token{{}}, "\x00")
	wantBytes(t, bytesOf("\xffab\x00"), "\xffab\x00")
	wantBytes(t, with("abc", back(6, 3)), "abcabcabc")
	wantBytes(t, with("abc", back(3, 3)), "abcabc")
	wantBytes(t, with("x", back(5, 1)), "xxxxxx")
	wantBytes(t, with("xy", back(5, 2)), "xyxyxyx")
	wantBytes(t, with("xy", back(5, 1)), "xyyyyyy")
	wantBytes(t, with("abcdef", back(3, 5)), "abcdefbcd")
	wantBytes(t, with("abcd", back(3, 4), byteOf('e'), back(4, 5)), "abcdabcedabc")
	wantBytes(t, with("a", back(258, 1)), string(bytes.Repeat([]byte("a"), 259)))
	whole := append(bytesOf("ab"), slices.Repeat([]api.Token{back(258, 2)}, 11)...)
	wantBytes(t, append(whole, back(160, 2840)), string(bytes.Repeat([]byte("ab"), 1500)))
}

// P4.2

func TestLongest(t *testing.T) {
	for _, c := range []struct {
		b         string
		k, n, far int
	}{
		{"a", 0, 0, 0},
		{"aaa", 0, 0, 0},
		{"aaaa", 0, 0, 0},
		{"aaaa", 1, 3, 1}, // what follows is among what stands ahead
		{"aaaa", 2, 0, 0}, // two are too few
		{"aaaa", 3, 0, 0},
		{"aaaaa", 1, 4, 1},
		{"aaaaa", 2, 3, 1}, // the nearest of two
		{"abcabcabc", 3, 6, 3},
		{"abcabcabc", 4, 5, 3},
		{"abcabcabc", 6, 3, 3}, // not 6, which is as good
		{"abcabcabc", 7, 0, 0},
		{"abcXabcYabc", 8, 3, 4},
		{"abcdXabcYabcd", 9, 4, 9}, // a farther one, as it has more
		{"abcXabcdYabcd", 9, 4, 5},
		{"abcXabYabc", 7, 3, 7},
		{"abXab", 3, 0, 0},
		{"abcXabc", 4, 3, 4}, // up to the end
		{"abcXab", 4, 0, 0},
		{"abcabX", 3, 0, 0},
		{"Xabcabd", 4, 0, 0},
		{"\x00\x00\x00\x00", 1, 3, 1},
		{"\x00\x00\x00", 0, 0, 0},
		{"\x00\x00\x00", 1, 0, 0},
	} {
		wantLongest(t, []byte(c.b), c.k, c.n, c.far, api.OK)
	}
}

func TestLongestSaysNoMoreThanMaxSame(t *testing.T) {
	for many := 257; many <= 262; many++ {
		b := bytes.Repeat([]byte("a"), many)
		wantLongest(t, b, 1, min(many-1, 258), 1, api.OK)
	}
	// Of two places with more than may be said, the nearer one, though the farther one has more.
	row := noise(300, 250, 5)
	b := slices.Concat(row, []byte{251}, row[:260], []byte{252}, row)
	wantLongest(t, b, 562, 258, 261, api.OK)
	b = slices.Concat(row, []byte{251}, row[:258], []byte{252}, row)
	wantLongest(t, b, 560, 258, 259, api.OK)
	b = slices.Concat(row, []byte{251}, row[:257], []byte{252}, row)
	wantLongest(t, b, 559, 258, 559, api.OK)
}

func TestLongestOfNoPlace(t *testing.T) {
	for _, k := range []int{-1, 5, 6, 3000, math.MinInt, math.MaxInt} {
		wantLongest(t, []byte("aaaaa"), k, 0, 0, api.ErrWho)
	}
	for _, k := range []int{-1, 0, 1} {
		wantLongest(t, nil, k, 0, 0, api.ErrWho)
		wantLongest(t, []byte{}, k, 0, 0, api.ErrWho)
	}
	// What lies behind the end, in the spare room, is no byte.
	wantLongest(t, []byte("aaaaa")[:4], 4, 0, 0, api.ErrWho)
	wantLongest(t, []byte("aaaaa")[:3], 1, 0, 0, api.OK)
}

func TestLongestOfManyBytes(t *testing.T) {
	b := make([]byte, 3001)
	wantLongest(t, b[:3000], 2999, 0, 0, api.OK)
	wantLongest(t, b[:3000], 2997, 3, 1, api.OK)
	wantLongest(t, b[:3000], 3000, 0, 0, api.ErrWho)
	for _, k := range []int{-1, 0, 1, 3000, 3001, math.MinInt, math.MaxInt} {
		wantLongest(t, b, k, 0, 0, api.ErrMany)
	}
	far := slices.Concat([]byte("xyz"), make([]byte, 2994), []byte("xyz"))
	wantLongest(t, far, 2997, 3, 2997, api.OK)
}

// P4.3

func TestTokens(t *testing.T) {
	for _, c := range []struct {
		b    string
		want []api.Token
	}{
		{"", nil},
		{"a", with("a")},
		{"aa", with("aa")},
		{"aaa", with("aaa")},
		{"aaaa", with("a", back(3, 1))},
		{"abcabc", with("abc", back(3, 3))},
		{"abcab", with("abcab")},
		{"abcabcabc", with("abc", back(6, 3))},
		{"abcXabcYabc", with("abcX", back(3, 4), byteOf('Y'), back(3, 4))},
		// The next place has more: the byte stands alone.
		{"abc_bcde_abcde", with("abc_bcde_a", back(4, 6))},
		// The next place has just as many: what is said first is taken.
		{"abc_bcd_abcd", with("abc_bcd_", back(3, 8), byteOf('d'))},
		// Each place has more than the one ahead of it.
		{"abc_bcde_cdefg_abcdefg", slices.Concat(with("abc_bcde_", back(3, 4)), with("fg_ab", back(5, 8)))},
		// Only the next place is asked, not the one behind it.
		{"abc_cdefg_abcdefg", with("abc_cdefg_", back(3, 10), back(4, 8))},
		{"\x00\x00\x00\x00\x00", with("\x00", back(4, 1))},
	} {
		wantTokens(t, []byte(c.b), c.want)
		wantBack(t, []byte(c.b))
	}
}

func TestTokensOfManyBytes(t *testing.T) {
	b := make([]byte, 3001)
	if l, e := match.Tokens(b); e != api.ErrMany || l != nil {
		t.Errorf("Tokens of 3001 bytes: %v, %d", l, e)
	}
	// 2999 = 11*258 + 161
	want := append(with("\x00"), slices.Repeat([]api.Token{back(258, 1)}, 11)...)
	wantTokens(t, b[:3000], append(want, back(161, 1)))
	wantBack(t, b[:3000])
}

// P4.2, P4.3, P4.4

func TestAllShortRows(t *testing.T) {
	for _, c := range []struct{ many, kinds int }{{11, 2}, {8, 3}, {6, 4}} {
		for many := range c.many + 1 {
			for _, b := range allBytes(many, c.kinds) {
				for k := range b {
					n, far := longest(b, k)
					wantLongest(t, b, k, n, far, api.OK)
				}
				wantTokens(t, b, tokens(b))
				wantBack(t, b)
			}
		}
	}
}

// longRows: rows that match hardly, often, and nearly everywhere.
func longRows() [][]byte {
	rows := [][]byte{
		bytes.Repeat([]byte("ab"), 1500),
		bytes.Repeat(noise(259, 256, 3), 12)[:3000],
		bytes.Repeat(noise(257, 2, 4), 12)[:3000],
		bytes.Repeat(append(make([]byte, 130), 1), 23)[:3000],
		bytes.Repeat(append(make([]byte, 300), 1), 10)[:3000],
	}
	for i, kinds := range []int{1, 2, 3, 4, 8, 256} {
		rows = append(rows, noise(3000, kinds, uint32(i)))
	}
	return rows
}

func TestLongRows(t *testing.T) {
	for _, b := range longRows() {
		for k := 0; k < len(b); k += 97 {
			n, far := longest(b, k)
			wantLongest(t, b, k, n, far, api.OK)
		}
		wantTokens(t, b, tokens(b))
		wantBack(t, b)
	}
}

// All expansions of right tokens have tokens again that stand for the same.
func TestTokensOfWhatWasExpanded(t *testing.T) {
	kinds := []api.Token{byteOf('a'), byteOf('b'), back(3, 1), back(4, 2), back(5, 3), back(3, 6)}
	var walk func(l []api.Token, left int)
	walk = func(l []api.Token, left int) {
		b, e := match.Expand(l)
		if e != api.OK {
			return
		}
		wantTokens(t, b, tokens(b))
		wantBack(t, b)
		if left == 0 {
			return
		}
		for _, k := range kinds {
			walk(append(slices.Clone(l), k), left-1)
		}
	}
	walk(nil, 5)
}

// P2

func TestWhatIsHandedInStays(t *testing.T) {
	roomy := []byte("abcabcabc________")
	b := roomy[:9]
	match.Longest(b, 3)
	l, _ := match.Tokens(b)
	if string(roomy) != "abcabcabc________" {
		t.Errorf("the bytes are now %q", roomy)
	}
	tokensRoom := append(slices.Clone(l), byteOf('_'), byteOf('_'))
	before := slices.Clone(tokensRoom)
	match.Check(tokensRoom[:len(l)])
	got, _ := match.Expand(tokensRoom[:len(l)])
	if !slices.Equal(tokensRoom, before) {
		t.Errorf("the tokens are now %v", tokensRoom)
	}
	got[0] = 'z'
	if again, _ := match.Expand(l); string(again) != "abcabcabc" {
		t.Errorf("Expand again: %q", again)
	}
	l[0] = byteOf('z')
	if string(roomy) != "abcabcabc________" {
		t.Errorf("the bytes are now %q", roomy)
	}
	wantTokens(t, b, with("abc", back(6, 3)))
}
