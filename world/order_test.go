package world_test

import (
	"slices"
	"strings"
	"testing"

	"reliquary/api"
	"reliquary/merge"
	"reliquary/world"
)

// someName: one of so many names, now and then a wrong one.
func someName(s *source, many int) string {
	if s.next(20) == 0 {
		return []string{"", "..", "a//b", strings.Repeat("x", 41), "a b"}[s.next(5)]
	}
	return string(rune('a' + s.next(many)))
}

// someHappening: whatever may happen among so many nodes and names, and sometimes what may not.
func someHappening(s *source, nodes, names int) api.Happening {
	return api.Happening{
		Kind: []int{1, 1, 1, 2, 3, 3, 3, 4, 4, 4, 5, 6, 6, 0, 7}[s.next(15-s.next(3))],
		Node: s.next(nodes+2) - s.next(2), To: s.next(5) - s.next(2),
		Name: someName(s, names), Bytes: make([]byte, s.next(4)),
	}
}

func someScript(s *source, many, nodes, names int) []api.Happening {
	var script []api.Happening
	for range many {
		script = append(script, someHappening(s, nodes, names))
	}
	return script
}

// someFiles: files that are right, none of them behind a moment.
func someFiles(s *source, latest, names int) []api.File {
	var out []api.File
	for i := range names {
		if s.next(3) == 0 || len(out) == 12 {
			continue
		}
		f := file(string(rune('a'+i)), s.next(latest+1), s.next(4), "xyz"[:s.next(4)])
		if s.next(4) == 0 {
			f.Bytes, f.Gone = nil, true
		}
		out = append(out, f)
	}
	return out
}

// someWorld: a world that is right, near its edges now and then.
func someWorld(s *source) api.World {
	latest, names := []int{2, 9, 999999, 1000000}[s.next(4)], []int{2, 5, 13, 18}[s.next(4)]
	var w api.World
	for range 1 + s.next(4) {
		w.Nodes = append(w.Nodes, someFiles(s, latest, names))
		w.Clock = append(w.Clock, min(latest+s.next(3), 1000000))
	}
	for range []int{0, 1, 4, 19, 20}[s.next(5)] {
		w.Net = append(w.Net, api.Message{To: s.next(len(w.Nodes)), Files: someFiles(s, latest, names)})
	}
	return w
}

// Whatever happens, Run does what the chapter's words say, and so does Settle behind it.
func TestScriptsAsTheWords(t *testing.T) {
	s := source(1)
	for i := range 3000 {
		n, names := 1+i%4, []int{2, 4, 20}[i%3]
		script := someScript(&s, s.next(41), n, names)
		m := &model{clock: make([]int, n)}
		for range n {
			m.nodes = append(m.nodes, map[string]api.File{})
		}
		var want []api.Errno
		for _, x := range script {
			want = append(want, m.do(x))
		}
		w, said, e := world.Run(n, script)
		wantWorld(t, "a script", w, e, m.world())
		if !slices.Equal(said, want) {
			t.Errorf("script %d: said %v, want %v", i, said, want)
		}
		wantSettledAsModel(t, w)
		if t.Failed() {
			t.Fatalf("script %d of %d nodes: %v", i, n, script)
		}
	}
}

// wantSettledAsModel: a world that is right must settle as the chapter's words say.
func wantSettledAsModel(t *testing.T, w api.World) {
	t.Helper()
	m := modelOf(w)
	want := m.settle()
	got, e := world.Settle(w)
	if want == api.OK {
		wantWorld(t, "settled", got, e, m.world())
	} else {
		wantNoWorld(t, "settled", got, e, want)
	}
}

// So it is of worlds that nobody ran, step by step.
func TestWorldsAsTheWords(t *testing.T) {
	s, said := source(2), map[[2]int]int{}
	for i := range 2000 {
		w := someWorld(&s)
		if e := world.Check(w); e != api.OK {
			t.Fatalf("world %d: %s: %v", i, shortWorld(w), e)
		}
		wantSettledAsModel(t, w)
		for range 6 {
			x := someHappening(&s, len(w.Nodes), 20)
			wantAsModel(t, w, x)
			next, e := world.Do(w, x)
			if e == api.OK {
				w = next
			}
			said[[2]int{x.Kind, int(e)}]++
		}
		if t.Failed() {
			t.Fatalf("world %d", i)
		}
	}
	who, full := int(api.ErrWho), int(api.ErrFull)
	for _, want := range [][2]int{
		{1, 0}, {1, int(api.ErrText)}, {1, int(api.ErrMany)}, {1, who}, {1, full},
		{2, 0}, {2, int(api.ErrText)}, {2, int(api.ErrMany)}, {2, who}, {2, full},
		{3, 0}, {3, who}, {3, full}, {4, 0}, {4, who}, {4, full}, {5, 0}, {5, who}, {6, 0}, {6, who}, {6, full},
		{0, int(api.ErrRange)}, {7, int(api.ErrRange)},
	} {
		if said[want] == 0 {
			t.Errorf("kind and error %v never came: %v", want, said)
		}
	}
}

// spoiled: a world with something that may be wrong.
func spoiled(s *source, w api.World) api.World {
	node, bad := s.next(len(w.Nodes)), []int{-1, 0, 3, 4, 1000000, 1000001}[s.next(6)]
	lists := []*[]api.File{&w.Nodes[node]}
	for i := range w.Net {
		lists = append(lists, &w.Net[i].Files)
	}
	l := lists[s.next(len(lists))]
	switch k := s.next(9); {
	case k == 0:
		w.Clock[s.next(len(w.Clock))] = bad
	case k == 1:
		w.Clock = append(w.Clock, 0)
	case k == 2:
		w.Nodes = append(w.Nodes, nil)
	case k == 3:
		w.Net = append(w.Net, api.Message{To: bad})
	case k == 4 && len(w.Net) > 0:
		w.Net[s.next(len(w.Net))].To = bad
	case k == 5 && len(*l) > 0:
		(*l)[s.next(len(*l))].Stamp = bad
	case k == 6 && len(*l) > 0:
		(*l)[s.next(len(*l))].Node = bad
	case k == 7 && len(*l) > 0:
		(*l)[s.next(len(*l))].Name = someName(s, 20)
	default:
		*l = append(*l, file(someName(s, 20), 0, 0, ""))
	}
	return w
}

func TestSpoiledWorldsAsTheWords(t *testing.T) {
	s, said := source(3), map[api.Errno]int{}
	for range 10000 {
		w := someWorld(&s)
		for range 1 + s.next(3) {
			w = spoiled(&s, w)
		}
		want := modelCheck(w)
		if e := world.Check(w); e != want {
			t.Fatalf("%s: %v, want %v", shortWorld(w), e, want)
		}
		said[want]++
		got, e := world.Do(w, put(0, "a", "x"))
		settled, e2 := world.Settle(w)
		if want != api.OK {
			wantNoWorld(t, "Do", got, e, want)
			wantNoWorld(t, "Settle", settled, e2, want)
		}
	}
	for _, want := range []api.Errno{api.OK, api.ErrText, api.ErrMany, api.ErrRange, api.ErrForm, api.ErrWho} {
		if said[want] == 0 {
			t.Errorf("%v never came: %v", want, said)
		}
	}
}

// watched: what comes of a script, and all that somebody put or took away on the way.
func watched(t *testing.T, n int, script []api.Happening) (w api.World, puts []api.File) {
	t.Helper()
	w, e := world.New(n)
	if e != api.OK {
		t.Fatal(e)
	}
	for _, x := range script {
		next, e := world.Do(w, x)
		if e != api.OK {
			continue
		}
		if w = next; x.Kind == api.Put {
			puts = append(puts, file(x.Name, w.Clock[x.Node], x.Node, string(x.Bytes)))
		} else if x.Kind == api.Take {
			puts = append(puts, gone(x.Name, w.Clock[x.Node], x.Node))
		}
	}
	return w, puts
}

// allFiles: the files of all nodes and of all messages.
func allFiles(w api.World) []api.File {
	out := slices.Concat(w.Nodes...)
	for _, m := range w.Net {
		out = append(out, m.Files...)
	}
	return out
}

// P13.4: settled nodes have the same; all of it was put; and nothing that was put is lost but to what is newer.
func TestNothingIsLostOrMadeUp(t *testing.T) {
	s, settled := source(4), 0
	for i := range 2000 {
		w, puts := watched(t, 1+i%4, someScript(&s, 60, 1+i%4, []int{2, 5, 15}[i%3]))
		isPut := func(f api.File) bool {
			return slices.ContainsFunc(puts, func(p api.File) bool { return sameFile(f, p) })
		}
		for _, f := range allFiles(w) {
			if !isPut(f) {
				t.Fatalf("world %d: nobody put %s", i, short(files(f)))
			}
		}
		w, e := world.Settle(w)
		if e == api.ErrFull && i%3 == 2 {
			continue
		}
		settled++
		for _, l := range w.Nodes {
			if !sameFiles(l, w.Nodes[0]) {
				t.Fatalf("world %d: settled, they have not the same: %s", i, shortWorld(w))
			}
		}
		wantNoneLost(t, w.Nodes[0], puts)
		if e != api.OK || len(w.Net) > 0 || slices.ContainsFunc(w.Nodes[0], func(f api.File) bool { return !isPut(f) }) {
			t.Fatalf("world %d: %v, %s", i, e, shortWorld(w))
		}
	}
	if settled < 1300 {
		t.Errorf("only %d settled", settled)
	}
}

// wantNoneLost: of each that somebody put there must be this one, or a newer one.
func wantNoneLost(t *testing.T, have, puts []api.File) {
	t.Helper()
	for _, p := range puts {
		i := slices.IndexFunc(have, func(f api.File) bool { return f.Name == p.Name })
		if i < 0 || merge.Newer(have[i], p) < 0 {
			t.Fatalf("%s is lost: %s", short(files(p)), short(have))
		}
	}
}

// Whatever order messages come in, and whichever come twice: if all nodes tell all, they have what is settled.
func TestInWhateverOrder(t *testing.T) {
	s := source(5)
	for i := range 400 {
		n := 2 + i%3
		w, _ := watched(t, n, someScript(&s, 40, n, 4))
		want, e := world.Settle(w)
		if e != api.OK {
			t.Fatal(e)
		}
		for len(w.Net) > 0 {
			w = done(t, w, lose(s.next(len(w.Net))))
		}
		for node := range n {
			for to := range n {
				w = done(t, w, send(node, to))
			}
		}
		for len(w.Net) > 0 {
			if s.next(3) == 0 && len(w.Net) < 20 {
				w = done(t, w, double(s.next(len(w.Net))))
			} else {
				w = done(t, w, arrive(s.next(len(w.Net))))
			}
		}
		wantWorld(t, "told", w, api.OK, want)
	}
}

// done: what comes of a happening that can't go wrong.
func done(t *testing.T, w api.World, x api.Happening) api.World {
	t.Helper()
	next, e := world.Do(w, x)
	if e != api.OK {
		t.Fatalf("%s: %v", shortHappening(x), e)
	}
	return next
}

// No clock goes back, and none is ahead of all that was put anywhere.
func TestClocksGoOn(t *testing.T) {
	s := source(6)
	for i := range 500 {
		n := 1 + i%4
		w, _ := world.New(n)
		for _, x := range someScript(&s, 60, n, 4) {
			next, e := world.Do(w, x)
			if e != api.OK {
				continue
			}
			grown := 0
			for k := range n {
				if next.Clock[k] < w.Clock[k] {
					t.Fatalf("%s: the clocks %v, then %v", shortHappening(x), w.Clock, next.Clock)
				}
				grown += next.Clock[k] - w.Clock[k]
			}
			if isFile := x.Kind == api.Put || x.Kind == api.Take; isFile && grown != 1 || !isFile && x.Kind != api.Arrive && grown != 0 {
				t.Fatalf("%s: the clocks %v, then %v", shortHappening(x), w.Clock, next.Clock)
			}
			w = next
		}
	}
}
