package merge_test

import (
	"slices"
	"testing"

	"reliquary/api"
	"reliquary/merge"
)

// modelBoth: Both by the chapter's words: of all names of both, rising, the file that nothing else of it is newer than.
func modelBoth(a, b []api.File) ([]api.File, api.Errno) {
	var names []string
	for _, f := range slices.Concat(a, b) {
		if !slices.Contains(names, f.Name) {
			names = append(names, f.Name)
		}
	}
	slices.Sort(names)
	if len(names) > 12 {
		return nil, api.ErrFull
	}
	var both []api.File
	for _, n := range names {
		var best *api.File
		for _, f := range slices.Concat(a, b) {
			if f.Name == n && (best == nil || merge.Newer(f, *best) > 0) {
				best = &f
			}
		}
		both = append(both, *best)
	}
	return both, api.OK
}

// modelLess: Less by the chapter's words.
func modelLess(a, b []api.File) []api.File {
	var l []api.File
	for _, f := range a {
		lacks := true
		for _, g := range b {
			lacks = lacks && (f.Name != g.Name || merge.Newer(f, g) > 0)
		}
		if lacks {
			l = append(l, f)
		}
	}
	return l
}

// allLists: each list of files of the names a and b, each of them not at all or in one of several ways.
func allLists() [][]api.File {
	ways := []api.File{{}, {Bytes: []byte("x")}, {Bytes: []byte("y")}, {Gone: true}, {Node: 1}, {Stamp: 1}, {Stamp: 1, Gone: true}}
	ofName := func(n string) [][]api.File {
		choices := [][]api.File{nil}
		for _, f := range ways {
			choices = append(choices, files(with(f, func(f *api.File) { f.Name = n })))
		}
		return choices
	}
	var lists [][]api.File
	for _, a := range ofName("a") {
		for _, b := range ofName("b") {
			lists = append(lists, slices.Concat(a, b))
		}
	}
	return lists
}

// source: numbers that look as if by chance, always the same.
type source uint32

func (s *source) next(n int) int {
	*s = *s*1664525 + 1013904223
	return int(*s>>8) % n
}

// someFile: one of few names, so that several are alike in much.
func (s *source) someFile(names int) api.File {
	f := put(many(names, "f")[s.next(names)].Name, s.next(3), s.next(2), "")
	switch s.next(4) {
	case 0:
		f.Gone = true
	case 1:
		f.Bytes = []byte{byte(s.next(3))}
	case 2:
		f.Bytes = make([]byte, s.next(3))
	}
	return f
}

// someFiles: a list of up to MaxFiles of so many names.
func (s *source) someFiles(names int) []api.File {
	var l []api.File
	share := 1 + s.next(4)
	for _, n := range many(names, "f") {
		if len(l) < api.MaxFiles && s.next(5) < share {
			l = append(l, with(s.someFile(1), func(f *api.File) { f.Name = n.Name }))
		}
	}
	return l
}

// both: what comes of two that have room.
func both(t *testing.T, a, b []api.File) []api.File {
	t.Helper()
	l, e := merge.Both(a, b)
	if e != api.OK {
		t.Fatalf("Both of %s, %s: %v", short(a), short(b), e)
	}
	return l
}

func less(t *testing.T, a, b []api.File) []api.File {
	t.Helper()
	l, e := merge.Less(a, b)
	if e != api.OK {
		t.Fatalf("Less of %s, %s: %v", short(a), short(b), e)
	}
	return l
}

// mustBeSame: two lists that came together in other ways.
func mustBeSame(t *testing.T, what string, got, want []api.File) {
	t.Helper()
	if !sameFiles(got, want) {
		t.Fatalf("%s: %s, want %s", what, short(got), short(want))
	}
}

// P10.4 of two: all that they promise each other.
func heldTogether(t *testing.T, a, b []api.File) {
	t.Helper()
	ab := both(t, a, b)
	if e := merge.Check(ab); e != api.OK {
		t.Fatalf("Both of %s, %s: Check says %v of it", short(a), short(b), e)
	}
	mustBeSame(t, "the other way round", both(t, b, a), ab)
	mustBeSame(t, "a once more", both(t, ab, a), ab)
	mustBeSame(t, "b once more", both(t, b, ab), ab)
	mustBeSame(t, "both twice", both(t, ab, ab), ab)
	lacking := less(t, a, b)
	mustBeSame(t, "Less by the words", lacking, modelLess(a, b))
	mustBeSame(t, "what b lacks of a, to b", both(t, b, lacking), ab)
	mustBeSame(t, "to b, the other way", both(t, lacking, b), ab)
	mustBeSame(t, "what a lacks of b, to a", both(t, a, less(t, b, a)), ab)
	mustBeSame(t, "what both lack of a", less(t, a, ab), nil)
	mustBeSame(t, "what both lack of b", less(t, b, ab), nil)
	// No more is told than is lacking: without any one of these it would not be both.
	for i := range lacking {
		without := slices.Delete(slices.Clone(lacking), i, i+1)
		if sameFiles(both(t, b, without), ab) {
			t.Fatalf("Less of %s, %s tells %s for nothing", short(a), short(b), short(lacking[i:i+1]))
		}
	}
}

func TestAllShortLists(t *testing.T) {
	lists := allLists()
	for _, a := range lists {
		mustBeSame(t, "twice is once", both(t, a, a), a)
		for _, b := range lists {
			want, _ := modelBoth(a, b)
			mustBeSame(t, "Both by the words", both(t, a, b), want)
			heldTogether(t, a, b)
		}
	}
}

func TestThreeInWhateverOrder(t *testing.T) {
	lists := allLists()
	together := make([][][]api.File, len(lists))
	for i, a := range lists {
		for _, b := range lists {
			together[i] = append(together[i], both(t, a, b))
		}
	}
	for i, a := range lists {
		for j, b := range lists {
			for k := range lists {
				if !sameFiles(both(t, a, together[j][k]), both(t, together[i][j], lists[k])) {
					t.Fatalf("%s, %s, %s: what comes first is to be seen", short(a), short(b), short(lists[k]))
				}
			}
		}
	}
}

// swapped calls do with each order of the list.
func swapped[T any](l []T, do func([]T)) {
	if len(l) < 2 {
		do(l)
		return
	}
	for i := range l {
		rest := slices.Delete(slices.Clone(l), i, i+1)
		swapped(rest, func(order []T) { do(append([]T{l[i]}, order...)) })
	}
}

func TestPutInWhateverOrder(t *testing.T) {
	var s source = 3
	for range 300 {
		var l []api.File
		for range 5 {
			l = append(l, s.someFile(3))
		}
		var first []api.File
		begun := false
		swapped(l, func(order []api.File) {
			var got []api.File
			for _, f := range order {
				next, e := merge.Put(got, f)
				if e != api.OK {
					t.Fatalf("Put of %s, %s: %v", short(got), short(files(f)), e)
				}
				mustBeSame(t, "Put is Both of it alone", next, both(t, got, files(f)))
				again, _ := merge.Put(next, f)
				mustBeSame(t, "Put twice", again, next)
				got = next
			}
			if !begun {
				first, begun = got, true
			}
			mustBeSame(t, "in another order", got, first)
		})
	}
}

// Lists of up to as many files as may be, of more names than there is room for.
func TestLongLists(t *testing.T) {
	var s source = 11
	told := map[api.Errno]int{}
	for range 4000 {
		names := 1 + s.next(18)
		a, b := s.someFiles(names), s.someFiles(names)
		want, wantErr := modelBoth(a, b)
		told[wantErr]++
		wantBoth(t, a, b, want, wantErr)
		wantBoth(t, b, a, want, wantErr)
		wantLess(t, a, b, modelLess(a, b), api.OK)
		f := s.someFile(names)
		want, putErr := modelBoth(a, files(f))
		wantPut(t, a, f, want, putErr)
		if wantErr == api.OK {
			heldTogether(t, a, b)
		}
	}
	if told[api.OK] < 1000 || told[api.ErrFull] < 200 {
		t.Errorf("the lists are all alike: %v", told)
	}
}

// inTurn: one after the other.
func inTurn(lists [][]api.File) ([]api.File, api.Errno) {
	var all []api.File
	for _, l := range lists {
		next, e := merge.Both(all, l)
		if e != api.OK {
			return nil, e
		}
		all = next
	}
	return all, api.OK
}

// That there is no room is told in whatever order they come, too.
func TestFourInWhateverOrder(t *testing.T) {
	var s source = 5
	told := map[api.Errno]int{}
	for range 400 {
		names := 2 + s.next(16)
		var lists [][]api.File
		for range 4 {
			lists = append(lists, s.someFiles(names))
		}
		want, wantErr := inTurn(lists)
		told[wantErr]++
		swapped(lists, func(order [][]api.File) {
			got, e := inTurn(order)
			wantFiles(t, "in another order", got, e, want, wantErr)
		})
	}
	if told[api.OK] < 100 || told[api.ErrFull] < 50 {
		t.Errorf("the lists are all alike: %v", told)
	}
}

// Nodes that tell what the other one lacks, in whatever order, come to have the same.
func TestWhatIsLackingIsEnough(t *testing.T) {
	var s source = 17
	pairs := [][2]int{{0, 1}, {1, 2}, {2, 0}, {1, 0}, {2, 1}, {0, 2}}
	for range 500 {
		var nodes [3][]api.File
		for i := range nodes {
			nodes[i] = s.someFiles(6)
		}
		want, _ := inTurn(nodes[:])
		for range 2 { // twice, as what comes last the first time isn't yet with all
			for range pairs {
				i := s.next(len(pairs))
				pairs[0], pairs[i] = pairs[i], pairs[0]
			}
			for _, p := range pairs {
				nodes[p[1]] = both(t, nodes[p[1]], less(t, nodes[p[0]], nodes[p[1]]))
			}
		}
		for i := range nodes {
			mustBeSame(t, "a node that was told", nodes[i], want)
		}
	}
}
