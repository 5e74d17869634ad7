package world_test

import (
	"fmt"
	"math"
	"strings"
	"testing"

	"reliquary/api"
	"reliquary/world"
)

// many: n times the same.
func many[T any](n int, one T) []T {
	var out []T
	for range n {
		out = append(out, one)
	}
	return out
}

func TestCheckTakesTheEdges(t *testing.T) {
	full := letters('a', 12)
	for i := range full {
		full[i].Bytes, full[i].Stamp, full[i].Node = make([]byte, 3000), 1000000, 3
	}
	w := api.World{Nodes: many(4, full), Clock: many(4, 1000000), Net: many(20, api.Message{To: 3, Files: full})}
	for _, w := range []api.World{w, some(), {Nodes: many[[]api.File](1, nil), Clock: []int{0}}, {Nodes: [][]api.File{{}}, Clock: []int{1000000}, Net: []api.Message{}}} {
		if e := world.Check(w); e != api.OK {
			t.Errorf("%s: %v", shortWorld(w), e)
		}
	}
	settled, e := world.Settle(w)
	wantWorld(t, "settled", settled, e, api.World{Nodes: w.Nodes, Clock: w.Clock})
	for _, x := range []api.Happening{put(0, "a", "x"), take(0, "a"), send(0, 0), double(0)} {
		wantUndone(t, w, x, api.ErrFull)
	}
	wantDone(t, w, lose(19), api.World{Nodes: w.Nodes, Clock: w.Clock, Net: w.Net[:19]})
	wantDone(t, w, arrive(19), api.World{Nodes: w.Nodes, Clock: w.Clock, Net: w.Net[:19]})
}

func TestHowManyNodes(t *testing.T) {
	wantRefused(t, "nothing", api.World{}, api.ErrRange)
	wantRefused(t, "no node", api.World{Nodes: [][]api.File{}, Clock: []int{}}, api.ErrRange)
	wantRefused(t, "five nodes", api.World{Nodes: many[[]api.File](5, nil), Clock: many(5, 0)}, api.ErrRange)
	wantRefused(t, "a clock of nobody", api.World{Clock: []int{0}}, api.ErrRange)
	for nodes := 1; nodes <= 4; nodes++ {
		for clocks := range 6 {
			w := api.World{Nodes: many[[]api.File](nodes, nil), Clock: many(clocks, 0)}
			if nodes != clocks {
				wantRefused(t, fmt.Sprint(nodes, " nodes, ", clocks, " clocks"), w, api.ErrRange)
			} else if e := world.Check(w); e != api.OK {
				t.Errorf("%d nodes: %v", nodes, e)
			}
		}
	}
}

// wrongFiles: files that chapter 10 refuses, and what it says of them.
func wrongFiles() map[api.Errno][]api.File {
	return map[api.Errno][]api.File{
		api.ErrMany:  letters('a', 13),
		api.ErrText:  files(file("a/", 0, 0, "")),
		api.ErrRange: files(file("a", 0, 4, "")),
		api.ErrForm:  files(file("b", 0, 0, ""), file("a", 0, 0, "")),
	}
}

func TestWrongNodes(t *testing.T) {
	for want, l := range wrongFiles() {
		for i := range 3 {
			wantRefused(t, "a node's files", someBut(func(w *api.World) { w.Nodes[i], w.Clock[i] = l, 1000000 }), want)
			wantRefused(t, "a message's files", someBut(func(w *api.World) { w.Net[i].Files = l }), want)
		}
	}
	for i, least := range []int{5, 0, 9} {
		for _, clock := range []int{-1, least - 1, 1000001, math.MinInt, math.MaxInt} {
			wantRefused(t, "a clock", someBut(func(w *api.World) { w.Clock[i] = clock }), api.ErrRange)
		}
		for _, clock := range []int{least, 1000000} {
			if e := world.Check(someBut(func(w *api.World) { w.Clock[i] = clock })); e != api.OK {
				t.Errorf("clock %d of node %d: %v", clock, i, e)
			}
		}
	}
}

func TestClockIsNoLessThanAnyStamp(t *testing.T) {
	for i := range 12 {
		l := letters('a', 12)
		l[i].Stamp = 8
		wantRefused(t, "below one", api.World{Nodes: [][]api.File{l}, Clock: []int{7}}, api.ErrRange)
		if e := world.Check(api.World{Nodes: [][]api.File{l}, Clock: []int{8}}); e != api.OK {
			t.Errorf("as the %d-th: %v", i, e)
		}
		w := api.World{Nodes: [][]api.File{nil}, Clock: []int{7}, Net: []api.Message{{Files: l}}}
		wantDone(t, w, arrive(0), api.World{Nodes: [][]api.File{l}, Clock: []int{8}})
		w = api.World{Nodes: [][]api.File{nil, l}, Clock: []int{7, 9}}
		got, e := world.Settle(w)
		wantWorld(t, "settled", got, e, api.World{Nodes: [][]api.File{l, l}, Clock: []int{8, 9}})
	}
}

func TestWrongMessages(t *testing.T) {
	for i := range 4 {
		for _, to := range []int{-1, 3, 4, math.MinInt, math.MaxInt} {
			wantRefused(t, "to nobody", someBut(func(w *api.World) { w.Net[i].To = to }), api.ErrWho)
		}
	}
	wantRefused(t, "too many", someBut(func(w *api.World) { w.Net = many(21, w.Net[1]) }), api.ErrMany)
	if e := world.Check(someBut(func(w *api.World) { w.Net = many(20, w.Net[1]) })); e != api.OK {
		t.Errorf("20 messages: %v", e)
	}
}

// Of several errors of a world the one that is told first is the answer.
func TestFirstErrorOfAWorld(t *testing.T) {
	wrong := wrongFiles()
	tooMany := func(w *api.World) { w.Net = many(21, api.Message{To: 9, Files: wrong[api.ErrText]}) }
	for _, x := range []struct {
		what   string
		change func(w *api.World)
		want   api.Errno
	}{
		{"clocks ahead of messages", func(w *api.World) { w.Clock = w.Clock[:2]; tooMany(w) }, api.ErrRange},
		{"messages ahead of nodes", func(w *api.World) { w.Nodes[0] = wrong[api.ErrText]; tooMany(w) }, api.ErrMany},
		{"files ahead of the clock", func(w *api.World) { w.Nodes[1], w.Clock[1] = wrong[api.ErrForm], -1 }, api.ErrForm},
		{"a node ahead of the next one", func(w *api.World) { w.Clock[0], w.Nodes[1] = -1, wrong[api.ErrForm] }, api.ErrRange},
		{"a node ahead of a message", func(w *api.World) { w.Clock[2], w.Net[0].To = -1, 3 }, api.ErrRange},
		{"files ahead of to whom", func(w *api.World) { w.Net[2] = api.Message{To: -1, Files: wrong[api.ErrText]} }, api.ErrText},
		{"a message ahead of the next one", func(w *api.World) { w.Net[0].To, w.Net[1].Files = 3, wrong[api.ErrText] }, api.ErrWho},
	} {
		wantRefused(t, x.what, someBut(x.change), x.want)
	}
}

func TestWrongKinds(t *testing.T) {
	for _, kind := range []int{0, -1, 7, 8, math.MinInt, math.MaxInt} {
		for _, at := range []int{-1, 0, 99} {
			wantUndone(t, some(), api.Happening{Kind: kind, Node: at, To: at, Name: "a"}, api.ErrRange)
		}
	}
}

func TestWrongPlaces(t *testing.T) {
	for _, at := range []int{-1, 3, 4, math.MinInt, math.MaxInt} {
		for _, x := range []api.Happening{put(at, "a", ""), take(at, "a"), send(at, 0), send(0, at), send(at, at)} {
			wantUndone(t, some(), x, api.ErrWho)
		}
	}
	for _, at := range []int{-1, 4, 5, math.MinInt, math.MaxInt} {
		for _, x := range []api.Happening{arrive(at), lose(at), double(at)} {
			wantUndone(t, some(), x, api.ErrWho)
		}
	}
}

// Of several errors of a happening the one that is told first is the answer.
func TestFirstErrorOfAHappening(t *testing.T) {
	late := someBut(func(w *api.World) { w.Clock[0], w.Clock[1] = 1000000, 1000000 })
	tooMany := strings.Repeat("x", 3001)
	for _, kind := range []func(node int, name string) api.Happening{
		take, func(node int, name string) api.Happening { return put(node, name, tooMany) },
	} {
		wantUndone(t, late, kind(3, ".."), api.ErrWho)
		wantUndone(t, late, kind(3, strings.Repeat("x", 41)), api.ErrWho)
		wantUndone(t, late, kind(0, ".."), api.ErrText)
		wantUndone(t, late, kind(0, strings.Repeat("x", 41)), api.ErrMany)
		wantUndone(t, late, kind(0, ""), api.ErrText)
		wantUndone(t, late, kind(0, "none"), api.ErrFull)
		wantUndone(t, late, kind(0, "a"), api.ErrFull)
		wantUndone(t, late, kind(0, "d"), api.ErrFull)
	}
	packed := api.World{Nodes: [][]api.File{letters('a', 12)}, Clock: []int{0}}
	wantUndone(t, packed, put(0, "z", tooMany), api.ErrMany)
	wantUndone(t, packed, put(0, "z", ""), api.ErrFull)
	wantUndone(t, packed, take(0, "z"), api.ErrWho)
	full := someBut(func(w *api.World) { w.Net = many(20, w.Net[1]) })
	wantUndone(t, full, send(0, 3), api.ErrWho)
	wantUndone(t, full, send(3, 0), api.ErrWho)
	wantUndone(t, full, send(0, 0), api.ErrFull)
	wantUndone(t, full, double(20), api.ErrWho)
	wantUndone(t, full, double(19), api.ErrFull)
}

// The last of all: the last moment, the longest bytes and name, the twelfth file, the twentieth message.
func TestLastRoom(t *testing.T) {
	name, text := strings.Repeat("x", 40), strings.Repeat("x", 3000)
	w := api.World{Nodes: [][]api.File{letters('a', 11)}, Clock: []int{999999}}
	wantDone(t, w, put(0, name, text), api.World{
		Nodes: [][]api.File{append(letters('a', 11), file(name, 1000000, 0, text))}, Clock: []int{1000000},
	})
	last := letters('a', 11)
	last[10] = gone("k", 1000000, 0)
	wantDone(t, w, take(0, "k"), api.World{Nodes: [][]api.File{last}, Clock: []int{1000000}})
	w = someBut(func(w *api.World) { w.Net = many(19, w.Net[3]) })
	wantDone(t, w, send(1, 0), someBut(func(w *api.World) { w.Net = append(many(19, w.Net[3]), api.Message{To: 0}) }))
	wantDone(t, w, double(18), someBut(func(w *api.World) { w.Net = many(20, w.Net[3]) }))
}

// With twelve files one that is there may still be put anew, or taken away.
func TestFullNodesStillChange(t *testing.T) {
	w := api.World{Nodes: [][]api.File{letters('a', 12)}, Clock: []int{3}}
	for i := range 12 {
		put1, take1 := letters('a', 12), letters('a', 12)
		put1[i], take1[i] = file(put1[i].Name, 4, 0, "new"), gone(take1[i].Name, 4, 0)
		wantDone(t, w, put(0, put1[i].Name, "new"), api.World{Nodes: [][]api.File{put1}, Clock: []int{4}})
		wantDone(t, w, take(0, put1[i].Name), api.World{Nodes: [][]api.File{take1}, Clock: []int{4}})
	}
}

// A message with too many other files does not come: it stays on its way, and may be lost.
func TestNoRoomForAMessage(t *testing.T) {
	w := api.World{
		Nodes: [][]api.File{letters('a', 6), letters('a', 7)}, Clock: []int{0, 0},
		Net: []api.Message{{To: 0, Files: letters('g', 7)}, {To: 0, Files: letters('f', 7)}, {To: 1, Files: letters('g', 7)}, {To: 1, Files: letters('h', 5)}},
	}
	wantUndone(t, w, arrive(0), api.ErrFull)
	wantUndone(t, w, arrive(2), api.ErrFull)
	wantDone(t, w, arrive(1), api.World{Nodes: [][]api.File{letters('a', 12), w.Nodes[1]}, Clock: w.Clock, Net: []api.Message{w.Net[0], w.Net[2], w.Net[3]}})
	wantDone(t, w, arrive(3), api.World{Nodes: [][]api.File{w.Nodes[0], letters('a', 12)}, Clock: w.Clock, Net: w.Net[:3]})
	wantDone(t, w, lose(0), api.World{Nodes: w.Nodes, Clock: w.Clock, Net: w.Net[1:]})
}

func TestNoRoomToSettle(t *testing.T) {
	w := api.World{Nodes: [][]api.File{letters('a', 4), letters('e', 4), letters('g', 6)}, Clock: many(3, 0)}
	got, e := world.Settle(w)
	wantWorld(t, "twelve", got, e, api.World{Nodes: many(3, letters('a', 12)), Clock: many(3, 0)})
	for i, l := range [][]api.File{letters('m', 5), letters('m', 5), letters('h', 6)} {
		w := api.World{Nodes: [][]api.File{letters('a', 4), letters('e', 4), letters('g', 6)}, Clock: many(3, 0)}
		w.Nodes[i] = l
		got, e := world.Settle(w)
		wantNoWorld(t, "more", got, e, api.ErrFull)
	}
}
