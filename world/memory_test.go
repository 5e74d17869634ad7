package world_test

import (
	"bytes"
	"fmt"
	"slices"
	"testing"

	"reliquary/api"
	"reliquary/world"
)

// roomyFiles: a list with spare room that isn't empty, of files whose bytes have such room.
func roomyFiles(l []api.File) []api.File {
	var out []api.File
	for _, f := range append(slices.Clone(l), file("spare", 1, 1, "spare"), gone("room", 2, 2)) {
		f.Bytes = append(slices.Clone(f.Bytes), "spare room"...)[:len(f.Bytes)]
		out = append(out, f)
	}
	return out[:len(l)]
}

// roomy: a world all of whose lists have spare room that isn't empty.
func roomy(w api.World) api.World {
	var out api.World
	for _, l := range append(slices.Clone(w.Nodes), letters('s', 2)) {
		out.Nodes = append(out.Nodes, roomyFiles(l))
	}
	for _, m := range append(slices.Clone(w.Net), api.Message{To: 1, Files: letters('s', 2)}) {
		out.Net = append(out.Net, api.Message{To: m.To, Files: roomyFiles(m.Files)})
	}
	out.Clock = append(slices.Clone(w.Clock), 77)
	return api.World{Nodes: out.Nodes[:len(w.Nodes)], Clock: out.Clock[:len(w.Clock)], Net: out.Net[:len(w.Net)]}
}

func roomyHappening(x api.Happening) api.Happening {
	x.Bytes = append(slices.Clone(x.Bytes), "spare room"...)[:len(x.Bytes)]
	return x
}

// wholeFiles: a list with its spare room, and its files' bytes with theirs, in other memory.
func wholeFiles(l []api.File) []api.File {
	var out []api.File
	for _, f := range l[:cap(l)] {
		f.Bytes = bytes.Clone(f.Bytes[:cap(f.Bytes)])
		out = append(out, f)
	}
	return out
}

// whole: a world with the spare room of all its lists, in other memory.
func whole(w api.World) api.World {
	var out api.World
	for _, l := range w.Nodes[:cap(w.Nodes)] {
		out.Nodes = append(out.Nodes, wholeFiles(l))
	}
	for _, m := range w.Net[:cap(w.Net)] {
		out.Net = append(out.Net, api.Message{To: m.To, Files: wholeFiles(m.Files)})
	}
	out.Clock = slices.Clone(w.Clock[:cap(w.Clock)])
	return out
}

// fill writes one thing over a list and its spare room.
func fill[T any](l []T, one T) {
	l = l[:cap(l)]
	for i := range l {
		l[i] = one
	}
}

// lists: all lists of files of a world, with those in spare room.
func lists(w api.World) [][]api.File {
	out := slices.Clone(w.Nodes[:cap(w.Nodes)])
	for _, m := range w.Net[:cap(w.Net)] {
		out = append(out, m.Files)
	}
	return out
}

// scribble writes over all lists of a world.
func scribble(w api.World) {
	for _, l := range lists(w) {
		for _, f := range l[:cap(l)] {
			fill(f.Bytes, 255)
		}
		fill(l, file("scribbled", -9, -9, "scribbled"))
	}
	fill(w.Nodes, letters('s', 1))
	fill(w.Clock, -9)
	fill(w.Net, api.Message{To: -9})
}

// asked: what happens to worlds, of each kind and each outcome.
func asked() []api.Happening {
	return []api.Happening{
		put(0, "a", "new"), put(0, "c", "behind"), put(1, "c", ""), put(0, "..", "x"), take(0, "a"), take(0, "d"), take(2, "e"),
		send(0, 1), send(2, 2), send(1, 0), send(0, 9), arrive(0), arrive(1), arrive(2), arrive(3), lose(0), lose(3), double(0), double(2), double(9), {},
	}
}

// answers: what all calls answer to a world and a happening.
func answers(w api.World, x api.Happening) []api.World {
	world.Check(w)
	done, _ := world.Do(w, x)
	settled, _ := world.Settle(w)
	return []api.World{done, settled}
}

func sameWorlds(a, b []api.World) bool { return slices.EqualFunc(a, b, sameWorld) }

// keptFiles: the same, in other memory.
func keptFiles(l []api.File) []api.File {
	var out []api.File
	for _, f := range l {
		f.Bytes = bytes.Clone(f.Bytes)
		out = append(out, f)
	}
	return out
}

// kept: the same, in other memory.
func kept(l []api.World) []api.World {
	var out []api.World
	for _, w := range l {
		k := api.World{Clock: slices.Clone(w.Clock)}
		for _, l := range w.Nodes {
			k.Nodes = append(k.Nodes, keptFiles(l))
		}
		for _, m := range w.Net {
			k.Net = append(k.Net, api.Message{To: m.To, Files: keptFiles(m.Files)})
		}
		out = append(out, k)
	}
	return out
}

// worlds: some of all sorts: right, wrong, nothing.
func worlds() []api.World {
	return []api.World{
		some(), {}, {Nodes: [][]api.File{nil}, Clock: []int{0}},
		someBut(func(w *api.World) { w.Clock[2] = 0 }),
		someBut(func(w *api.World) { w.Net = many(20, w.Net[0]) }),
		someBut(func(w *api.World) { w.Net[3].To = 9 }),
		someBut(func(w *api.World) { w.Nodes[1], w.Net[0].Files = letters('f', 12), letters('a', 12) }),
	}
}

func TestOnlyReads(t *testing.T) {
	for i, w := range worlds() {
		for _, x := range asked() {
			w, x := roomy(w), roomyHappening(x)
			keptWorld, keptBytes := whole(w), bytes.Clone(x.Bytes[:cap(x.Bytes)])
			same := func() bool {
				return sameWorld(whole(w), keptWorld) && bytes.Equal(x.Bytes[:cap(x.Bytes)], keptBytes)
			}
			got := answers(w, x)
			if !same() {
				t.Errorf("world %d, %s: what was handed in was changed, or its spare room", i, shortHappening(x))
			}
			for _, g := range got {
				scribble(g)
			}
			if !same() {
				t.Errorf("world %d, %s: an answer shares memory with what was handed in", i, shortHappening(x))
			}
		}
	}
}

// Writing over what was handed in, or over another answer, doesn't reach an answer: nothing of it is kept.
func TestAnswersStayAsTheyWere(t *testing.T) {
	for i, w := range worlds() {
		for _, x := range asked() {
			w, x := roomy(w), roomyHappening(x)
			got := answers(w, x)
			want := kept(got)
			for _, g := range answers(w, x) {
				scribble(g)
			}
			scribble(w)
			fill(x.Bytes, 255)
			if !sameWorlds(got, want) {
				t.Errorf("world %d, %s: an answer shares memory", i, shortHappening(x))
			}
		}
	}
}

// wantApart: no two lists of a world may share memory, spare room among it.
func wantApart(t *testing.T, what string, w api.World) {
	t.Helper()
	all := lists(w)
	k := 0
	for _, l := range all {
		for _, f := range l {
			fill(f.Bytes, byte(k))
			k++
		}
	}
	k = 0
	for _, l := range all {
		for _, f := range l {
			if !bytes.Equal(f.Bytes, bytes.Repeat([]byte{byte(k)}, len(f.Bytes))) {
				t.Errorf("%s: bytes of two files share memory", what)
			}
			k++
		}
	}
	for i, l := range all {
		fill(l, file("", i, 0, ""))
	}
	for i, l := range all {
		if slices.ContainsFunc(l, func(f api.File) bool { return f.Stamp != i }) {
			t.Errorf("%s: two lists of files share memory", what)
		}
	}
}

func TestListsOfOneAnswerStayApart(t *testing.T) {
	// One list is handed in in all places.
	shared := roomyFiles(files(file("a", 5, 1, "shared"), file("b", 5, 1, "shared too")))
	shared[1].Bytes = shared[0].Bytes[:4]
	alike := api.World{Nodes: many(3, shared), Clock: []int{5, 6, 7}, Net: many(4, api.Message{To: 1, Files: shared})}
	for i, w := range append(worlds(), alike) {
		for _, x := range asked() {
			for k, got := range answers(w, x) {
				wantApart(t, fmt.Sprint("world ", i, ", ", shortHappening(x), ", answer ", k), got)
			}
		}
	}
}

func TestRunSharesNothing(t *testing.T) {
	text := []byte("shared")
	script := []api.Happening{
		{Kind: api.Put, Name: "a", Bytes: text}, {Kind: api.Put, Name: "b", Bytes: text[:3]}, {Kind: api.Put, Node: 1, Name: "c", Bytes: text},
		send(0, 1), send(0, 2), double(0), double(1), arrive(0), send(1, 1), take(9, "a"),
	}
	keptScript := slices.Clone(script)
	w, said, _ := world.Run(3, script)
	keptWorld, keptSaid := kept([]api.World{w}), slices.Clone(said)
	again, saidAgain, _ := world.Run(3, script)
	scribble(again)
	fill(saidAgain, 99)
	if string(text) != "shared" || !slices.EqualFunc(script, keptScript, func(a, b api.Happening) bool { return shortHappening(a) == shortHappening(b) }) {
		t.Error("what was handed in was changed")
	}
	fill(text, 255)
	fill(script, api.Happening{})
	if !sameWorlds([]api.World{w}, keptWorld) || !slices.Equal(said, keptSaid) {
		t.Error("an answer shares memory")
	}
	wantApart(t, "Run", w)
}

func TestNewSharesNothing(t *testing.T) {
	a, _ := world.New(4)
	scribble(a)
	b, e := world.New(4)
	wantWorld(t, "new", b, e, api.World{Nodes: make([][]api.File, 4), Clock: make([]int, 4)})
}

// Neither what was called ahead, nor spare room, nor whether nothing is nil or empty is to be seen in an answer.
func TestAnswersHangOnArgumentsAlone(t *testing.T) {
	for _, x := range asked() {
		first := kept(answers(some(), x))
		for _, ahead := range worlds() {
			answers(ahead, put(0, "z", "z"))
			if !sameWorlds(answers(some(), x), first) || !sameWorlds(answers(roomy(some()), roomyHappening(x)), first) {
				t.Fatalf("%s: behind %s the answers are others", shortHappening(x), shortWorld(ahead))
			}
		}
	}
	empty := api.World{Nodes: [][]api.File{{}, {}}, Clock: []int{0, 0}, Net: []api.Message{{Files: []api.File{}}}}
	none := api.World{Nodes: make([][]api.File, 2), Clock: []int{0, 0}, Net: []api.Message{{}}}
	for _, x := range asked() {
		y := x
		if y.Bytes = nil; len(x.Bytes) > 0 {
			y.Bytes = x.Bytes
		}
		if !sameWorlds(answers(empty, x), answers(none, y)) {
			t.Errorf("%s: nothing, nil or empty, is taken in two ways", shortHappening(x))
		}
	}
}
