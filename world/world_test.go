package world_test

import (
	"slices"
	"strings"
	"testing"

	"reliquary/api"
	"reliquary/world"
)

func TestNew(t *testing.T) {
	for n := 1; n <= 4; n++ {
		w, e := world.New(n)
		wantWorld(t, "new", w, e, api.World{Nodes: make([][]api.File, n), Clock: make([]int, n)})
	}
	for _, n := range []int{0, 5, -1, 1 << 40, -1 << 62} {
		w, e := world.New(n)
		wantNoWorld(t, "new", w, e, api.ErrRange)
	}
}

// some: a world in which each kind of happening has something to do.
func some() api.World {
	return api.World{
		Nodes: [][]api.File{
			{file("a", 5, 0, "five"), file("b/c", 2, 1, "two"), gone("d", 3, 0)},
			nil,
			{file("a", 5, 2, "five of 2"), file("e", 9, 3, strings.Repeat("e", 3000))},
		},
		Clock: []int{5, 0, 12},
		Net: []api.Message{
			{To: 0, Files: files(gone("a", 6, 1), file("d", 3, 1, "newer"), file("f", 20, 3, ""))},
			{To: 1, Files: files(file("a", 4, 0, "four"))},
			{To: 1},
			{To: 2, Files: files(file("a", 5, 1, "older"), file("b", 7, 1, "b"))},
		},
	}
}

// someBut: that world with something else in it.
func someBut(change func(w *api.World)) api.World {
	w := some()
	change(&w)
	return w
}

func TestPut(t *testing.T) {
	wantDone(t, some(), put(0, "a", "six"), someBut(func(w *api.World) {
		w.Nodes[0][0], w.Clock[0] = file("a", 6, 0, "six"), 6
	}))
	wantDone(t, some(), put(0, "d", "back"), someBut(func(w *api.World) {
		w.Nodes[0][2], w.Clock[0] = file("d", 6, 0, "back"), 6
	}))
	wantDone(t, some(), put(1, "new/_-.9", ""), someBut(func(w *api.World) {
		w.Nodes[1], w.Clock[1] = files(file("new/_-.9", 1, 1, "")), 1
	}))
	wantDone(t, some(), put(2, "b", "between"), someBut(func(w *api.World) {
		w.Nodes[2], w.Clock[2] = files(w.Nodes[2][0], file("b", 13, 2, "between"), w.Nodes[2][1]), 13
	}))
}

// Of Put and Take nothing but the node, the name and the bytes counts.
func TestPutAndTakeLookAtNoMessage(t *testing.T) {
	for _, to := range []int{-1, 0, 3, 4, 99} {
		x, y := put(0, "a", "six"), take(0, "a")
		x.To, y.To, y.Bytes = to, to, make([]byte, 3001)
		wantDone(t, some(), x, someBut(func(w *api.World) { w.Nodes[0][0], w.Clock[0] = file("a", 6, 0, "six"), 6 }))
		wantDone(t, some(), y, someBut(func(w *api.World) { w.Nodes[0][0], w.Clock[0] = gone("a", 6, 0), 6 }))
	}
}

func TestTake(t *testing.T) {
	wantDone(t, some(), take(0, "b/c"), someBut(func(w *api.World) {
		w.Nodes[0][1], w.Clock[0] = gone("b/c", 6, 0), 6
	}))
	wantDone(t, some(), take(2, "e"), someBut(func(w *api.World) {
		w.Nodes[2][1], w.Clock[2] = gone("e", 13, 2), 13
	}))
	wantUndone(t, some(), take(0, "d"), api.ErrWho)
	wantUndone(t, some(), take(0, "e"), api.ErrWho)
	wantUndone(t, some(), take(0, "b"), api.ErrWho)
	wantUndone(t, some(), take(1, "a"), api.ErrWho)
}

func TestSend(t *testing.T) {
	for node := range 3 {
		for to := range 3 {
			wantDone(t, some(), send(node, to), someBut(func(w *api.World) {
				w.Net = append(w.Net, api.Message{To: to, Files: some().Nodes[node]})
			}))
		}
	}
}

// Of Send neither the name nor the bytes count.
func TestSendLooksAtNoName(t *testing.T) {
	x := send(0, 1)
	x.Name, x.Bytes = "..", make([]byte, 3001)
	wantDone(t, some(), x, someBut(func(w *api.World) {
		w.Net = append(w.Net, api.Message{To: 1, Files: some().Nodes[0]})
	}))
}

func TestArrive(t *testing.T) {
	drop := func(w *api.World, i int) { w.Net = slices.Delete(w.Net, i, i+1) }
	wantDone(t, some(), arrive(0), someBut(func(w *api.World) {
		w.Nodes[0] = files(gone("a", 6, 1), file("b/c", 2, 1, "two"), file("d", 3, 1, "newer"), file("f", 20, 3, ""))
		w.Clock[0] = 20
		drop(w, 0)
	}))
	wantDone(t, some(), arrive(1), someBut(func(w *api.World) {
		w.Nodes[1], w.Clock[1] = files(file("a", 4, 0, "four")), 4
		drop(w, 1)
	}))
	wantDone(t, some(), arrive(2), someBut(func(w *api.World) { drop(w, 2) }))
	wantDone(t, some(), arrive(3), someBut(func(w *api.World) {
		w.Nodes[2] = files(w.Nodes[2][0], file("b", 7, 1, "b"), w.Nodes[2][1])
		drop(w, 3)
	}))
}

// Which node the happening names, or what file, does not count: the message knows its node.
func TestMessagesKnowTheirNode(t *testing.T) {
	for _, node := range []int{-1, 0, 1, 2, 3, 99} {
		for _, kind := range []int{api.Arrive, api.Lose, api.Double} {
			x := api.Happening{Kind: kind, Node: node, To: 3, Name: "..", Bytes: make([]byte, 3001)}
			want, e := world.Do(some(), api.Happening{Kind: kind, To: 3})
			if e != api.OK {
				t.Fatalf("kind %d: %v", kind, e)
			}
			wantDone(t, some(), x, want)
		}
	}
}

func TestLoseAndDouble(t *testing.T) {
	for i := range 4 {
		wantDone(t, some(), lose(i), someBut(func(w *api.World) { w.Net = slices.Delete(w.Net, i, i+1) }))
		wantDone(t, some(), double(i), someBut(func(w *api.World) { w.Net = append(w.Net, some().Net[i]) }))
	}
}

// A message that comes twice, or comes back to its sender, changes nothing more.
func TestAgainChangesNothing(t *testing.T) {
	w, said, e := world.Run(2, []api.Happening{
		put(0, "a", "x"), put(0, "b", "y"), send(0, 1), double(0), send(0, 0), arrive(0), arrive(0), arrive(0),
	})
	if slices.ContainsFunc(said, func(e api.Errno) bool { return e != api.OK }) {
		t.Errorf("said %v", said)
	}
	both := files(file("a", 1, 0, "x"), file("b", 2, 0, "y"))
	wantWorld(t, "again", w, e, api.World{Nodes: [][]api.File{both, both}, Clock: []int{2, 2}})
}

// What a node sends is what it had then.
func TestMessagesStayAsTheyWereSent(t *testing.T) {
	w, said, e := world.Run(2, []api.Happening{put(0, "a", "first"), send(0, 1), put(0, "a", "second"), take(0, "a"), arrive(0)})
	wantWorld(t, "sent", w, e, api.World{
		Nodes: [][]api.File{{gone("a", 3, 0)}, {file("a", 1, 0, "first")}}, Clock: []int{3, 1},
	})
	if !slices.Equal(said, make([]api.Errno, 5)) {
		t.Errorf("said %v", said)
	}
}

// The document's example: of two files put at one moment the one of the greater node stays.
func TestAtOneMoment(t *testing.T) {
	for _, script := range [][]api.Happening{
		{put(0, "a", "of 0"), put(2, "a", "of 2"), send(0, 2), send(2, 0), arrive(0), arrive(0)},
		{put(2, "a", "of 2"), put(0, "a", "of 0"), send(0, 2), send(2, 0), arrive(1), arrive(0)},
		{put(0, "a", "of 0"), put(2, "a", "of 2"), send(2, 0), arrive(0), send(0, 2), arrive(0)},
	} {
		stays := files(file("a", 1, 2, "of 2"))
		w, _, e := world.Run(3, script)
		wantWorld(t, "at one moment", w, e, api.World{Nodes: [][]api.File{stays, nil, stays}, Clock: []int{1, 0, 1}})
	}
}

func TestRun(t *testing.T) {
	w, said, e := world.Run(2, []api.Happening{
		take(0, "a"), put(0, "a", "x"), put(0, "a/", "x"), arrive(0), send(0, 1), send(0, 2), arrive(1), {Kind: 7}, arrive(0), put(1, "b", "y"),
	})
	want := []api.Errno{api.ErrWho, api.OK, api.ErrText, api.ErrWho, api.OK, api.ErrWho, api.ErrWho, api.ErrRange, api.OK, api.OK}
	if !slices.Equal(said, want) {
		t.Errorf("said %v, want %v", said, want)
	}
	a := file("a", 1, 0, "x")
	wantWorld(t, "run", w, e, api.World{Nodes: [][]api.File{{a}, {a, file("b", 2, 1, "y")}}, Clock: []int{1, 2}})
	for n := 1; n <= 4; n++ {
		for _, script := range [][]api.Happening{nil, {}} {
			fresh, _ := world.New(n)
			w, said, e := world.Run(n, script)
			wantWorld(t, "no script", w, e, fresh)
			if len(said) > 0 {
				t.Errorf("said %v of nothing", said)
			}
		}
	}
}

func TestRunTakesSoManyHappenings(t *testing.T) {
	var script []api.Happening
	for range 40 {
		script = append(script, put(0, "a", "x"))
	}
	w, said, e := world.Run(1, script)
	wantWorld(t, "40", w, e, api.World{Nodes: [][]api.File{{file("a", 40, 0, "x")}}, Clock: []int{40}})
	if !slices.Equal(said, make([]api.Errno, 40)) {
		t.Errorf("said %v", said)
	}
	for _, wrong := range []struct {
		n, many int
		want    api.Errno
	}{{1, 41, api.ErrMany}, {4, 1000, api.ErrMany}, {0, 0, api.ErrRange}, {5, 40, api.ErrRange}, {0, 41, api.ErrRange}, {-1, 1000, api.ErrRange}} {
		w, said, e := world.Run(wrong.n, make([]api.Happening, wrong.many))
		wantNoWorld(t, "run", w, e, wrong.want)
		if said != nil {
			t.Errorf("%v: said %v", wrong, said)
		}
	}
}

func TestSettle(t *testing.T) {
	all := files(file("a", 5, 2, "five of 2"), file("b/c", 2, 1, "two"), gone("d", 3, 0), some().Nodes[2][1])
	w, e := world.Settle(some())
	wantWorld(t, "settled", w, e, api.World{Nodes: [][]api.File{all, all, all}, Clock: []int{9, 9, 12}})
	again, e := world.Settle(w)
	wantWorld(t, "settled again", again, e, w)
	for n := 1; n <= 4; n++ {
		fresh, _ := world.New(n)
		w, e := world.Settle(fresh)
		wantWorld(t, "nothing settled", w, e, fresh)
	}
}

// What is on its way is not told.
func TestSettleForgetsMessages(t *testing.T) {
	w := api.World{Nodes: [][]api.File{nil, nil}, Clock: []int{0, 7}, Net: []api.Message{{To: 0, Files: files(file("a", 5, 0, "x"))}}}
	got, e := world.Settle(w)
	wantWorld(t, "settled", got, e, api.World{Nodes: [][]api.File{nil, nil}, Clock: []int{0, 7}})
}
