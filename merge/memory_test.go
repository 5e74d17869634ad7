package merge_test

import (
	"bytes"
	"slices"
	"testing"

	"reliquary/api"
	"reliquary/merge"
)

// calls: all that answer lists, of the same two arguments.
func calls() map[string]func(a, b []api.File) ([]api.File, api.Errno) {
	return map[string]func(a, b []api.File) ([]api.File, api.Errno){
		"Both":  merge.Both,
		"Less":  merge.Less,
		"Put":   func(a, b []api.File) ([]api.File, api.Errno) { return merge.Put(a, b[0]) },
		"Shown": func(a, b []api.File) ([]api.File, api.Errno) { return merge.Shown(a) },
	}
}

// roomy: a file whose bytes have spare room that isn't empty.
func roomy(f api.File) api.File {
	f.Bytes = append(bytes.Clone(f.Bytes), "spare room"...)[:len(f.Bytes)]
	return f
}

// roomyFiles: a list with spare room that isn't empty, of roomy files.
func roomyFiles(l ...api.File) []api.File {
	var out []api.File
	for _, f := range append(l, put("spare", 1, 1, "spare"), gone("room", 2, 2)) {
		out = append(out, roomy(f))
	}
	return out[:len(l)]
}

// whole: a list with its spare room, and its files' bytes with theirs.
func whole(l []api.File) []api.File {
	var out []api.File
	for _, f := range l[:cap(l)] {
		f.Bytes = bytes.Clone(f.Bytes[:cap(f.Bytes)])
		out = append(out, f)
	}
	return out
}

// tight: a list without spare room, of files without it; no bytes are nil.
func tight(l []api.File) []api.File {
	out := make([]api.File, len(l))
	for i, f := range l {
		f.Bytes = slices.Clip(append([]byte(nil), f.Bytes...))
		out[i] = f
	}
	return out
}

// scribble writes over all of a list, its spare room, its files' bytes and theirs.
func scribble(l []api.File) {
	l = l[:cap(l)]
	for i := range l {
		b := l[i].Bytes[:cap(l[i].Bytes)]
		for k := range b {
			b[k] = 255
		}
		l[i] = put("scribbled", -9, -9, "scribbled")
	}
}

func roomyPair() (a, b []api.File) {
	return roomyFiles(put("a", 1, 0, "aa"), put("b", 2, 0, "bb"), gone("c", 3, 0), put("d", 4, 0, "")),
		roomyFiles(put("b", 1, 0, "older"), put("c", 4, 0, "newer"), put("d", 4, 0, ""), put("e", 5, 1, "e"))
}

func TestNothingHandedInIsChanged(t *testing.T) {
	for what, call := range calls() {
		for _, swap := range []bool{false, true} {
			a, b := roomyPair()
			if swap {
				a, b = b, a
			}
			keptA, keptB := whole(a), whole(b)
			got, e := call(a, b)
			if e != api.OK || len(got) == 0 {
				t.Fatalf("%s: %s %v", what, short(got), e)
			}
			if !sameFiles(whole(a), keptA) || !sameFiles(whole(b), keptB) {
				t.Errorf("%s changed what it was given, or its spare room", what)
			}
			scribble(got)
			if !sameFiles(whole(a), keptA) || !sameFiles(whole(b), keptB) {
				t.Errorf("%s: the answer shares memory with what was handed in", what)
			}
		}
	}
}

func TestErrorsChangeNothing(t *testing.T) {
	for what, call := range calls() {
		a, b := roomyPair()
		a[3].Stamp = -1
		keptA, keptB := whole(a), whole(b)
		if got, e := call(a, b); e != api.ErrRange || got != nil {
			t.Errorf("%s: %s %v", what, short(got), e)
		}
		if !sameFiles(whole(a), keptA) || !sameFiles(whole(b), keptB) {
			t.Errorf("%s changed what it was given, or its spare room", what)
		}
	}
}

func TestCheckAndNewerOnlyRead(t *testing.T) {
	a, b := roomyPair()
	keptA, keptB := whole(a), whole(b)
	merge.Check(a)
	merge.Check(append(named("z"), b...))
	merge.Newer(a[0], b[0])
	merge.Newer(a[3], b[2])
	if !sameFiles(whole(a), keptA) || !sameFiles(whole(b), keptB) {
		t.Error("they changed what they were given, or its spare room")
	}
}

// Writing over what was handed in doesn't reach an answer: nothing of it is kept.
func TestAnswersStayAsTheyWere(t *testing.T) {
	for what, call := range calls() {
		a, b := roomyPair()
		got, _ := call(a, b)
		kept := whole(got[:len(got):len(got)])
		again, _ := call(a, b)
		scribble(again)
		scribble(a)
		scribble(b)
		if !sameFiles(whole(got[:len(got):len(got)]), kept) {
			t.Errorf("%s: the answer shares memory with what was handed in, or with another answer", what)
		}
	}
}

// The lists of one answer stay apart, with their spare room, even where one list of bytes was handed in several times.
func TestListsOfOneAnswerStayApart(t *testing.T) {
	shared := []byte("shared")
	for what, call := range calls() {
		a := files(api.File{Name: "a", Stamp: 1, Bytes: shared}, api.File{Name: "b", Stamp: 1, Bytes: shared}, api.File{Name: "c", Stamp: 1, Bytes: shared[:3]})
		b := files(api.File{Name: "b", Bytes: shared}, api.File{Name: "d", Bytes: shared})
		got, e := call(a, b)
		if e != api.OK || len(got) < 3 {
			t.Fatalf("%s: %s %v", what, short(got), e)
		}
		for i := range got {
			room := got[i].Bytes[:cap(got[i].Bytes)]
			for k := range room {
				room[k] = byte('0' + i)
			}
		}
		for i, f := range got {
			if !bytes.Equal(f.Bytes, bytes.Repeat([]byte{byte('0' + i)}, len(f.Bytes))) {
				t.Errorf("%s: lists of one answer share memory: %s", what, short(got))
			}
		}
		if string(shared) != "shared" {
			t.Errorf("%s: the answer shares memory with what was handed in", what)
		}
	}
}

func TestAnswersHangOnArgumentsAlone(t *testing.T) {
	for range 3 {
		for what, call := range calls() {
			a, b := roomyPair()
			first, e := call(a, b)
			call(b, named("z", "a"))
			call(named("z", "a"), a)
			second, e2 := call(a, b)
			// Neither spare room nor whether no bytes are nil or empty is to be seen.
			third, e3 := call(tight(a), tight(b))
			if !sameFiles(first, second) || !sameFiles(first, third) || e != api.OK || e2 != e || e3 != e {
				t.Errorf("%s: %s, then %s, then %s", what, short(first), short(second), short(third))
			}
		}
	}
}
