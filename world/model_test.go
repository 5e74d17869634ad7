package world_test

import (
	"bytes"
	"fmt"
	"slices"
	"strings"
	"testing"

	"reliquary/api"
	"reliquary/merge"
	"reliquary/name"
	"reliquary/world"
)

// source: numbers that look as if by chance, always the same.
type source uint32

func (s *source) next(n int) int {
	*s = *s*1664525 + 1013904223
	return int(*s>>8) % n
}

func file(name string, stamp, node int, text string) api.File {
	return api.File{Name: name, Stamp: stamp, Node: node, Bytes: []byte(text)}
}

func gone(name string, stamp, node int) api.File {
	return api.File{Name: name, Stamp: stamp, Node: node, Gone: true}
}

func files(l ...api.File) []api.File { return l }

func put(node int, name, text string) api.Happening {
	return api.Happening{Kind: api.Put, Node: node, Name: name, Bytes: []byte(text)}
}

func take(node int, name string) api.Happening {
	return api.Happening{Kind: api.Take, Node: node, Name: name}
}

func send(node, to int) api.Happening {
	return api.Happening{Kind: api.Send, Node: node, To: to}
}

func arrive(message int) api.Happening { return api.Happening{Kind: api.Arrive, To: message} }

func lose(message int) api.Happening { return api.Happening{Kind: api.Lose, To: message} }

func double(message int) api.Happening { return api.Happening{Kind: api.Double, To: message} }

// letters: so many files, rising from a letter on, as old as can be.
func letters(first byte, many int) []api.File {
	var out []api.File
	for i := range many {
		out = append(out, file(string(first+byte(i)), 0, 0, "x"))
	}
	return out
}

func sameFile(a, b api.File) bool {
	return a.Name == b.Name && bytes.Equal(a.Bytes, b.Bytes) && a.Stamp == b.Stamp && a.Node == b.Node && a.Gone == b.Gone
}

func sameFiles(a, b []api.File) bool { return slices.EqualFunc(a, b, sameFile) }

func sameMessage(a, b api.Message) bool { return a.To == b.To && sameFiles(a.Files, b.Files) }

func sameWorld(a, b api.World) bool {
	return slices.EqualFunc(a.Nodes, b.Nodes, sameFiles) && slices.Equal(a.Clock, b.Clock) && slices.EqualFunc(a.Net, b.Net, sameMessage)
}

// nothing: is a world zero?
func nothing(w api.World) bool { return w.Nodes == nil && w.Clock == nil && w.Net == nil }

// short: files told in few words.
func short(l []api.File) string {
	var out []string
	for _, f := range l {
		text := fmt.Sprintf("%q", f.Bytes)
		if len(f.Bytes) > 20 {
			text = fmt.Sprint(len(f.Bytes), " bytes")
		}
		out = append(out, fmt.Sprintf("%q:%s,%d,%d,%v", f.Name, text, f.Stamp, f.Node, f.Gone))
	}
	return "[" + strings.Join(out, " ") + "]"
}

// shortWorld: a world told in few words.
func shortWorld(w api.World) string {
	var out strings.Builder
	for _, l := range w.Nodes {
		out.WriteString(short(l) + " ")
	}
	fmt.Fprint(&out, w.Clock)
	for _, m := range w.Net {
		fmt.Fprintf(&out, " to %d: %s", m.To, short(m.Files))
	}
	return out.String()
}

func shortHappening(x api.Happening) string {
	return fmt.Sprintf("kind %d, node %d, to %d, %q, %d bytes", x.Kind, x.Node, x.To, x.Name, len(x.Bytes))
}

// names: the newest file of each name.
type names map[string]api.File

func namesOf(l []api.File) names {
	m := names{}
	m.take(l)
	return m
}

// take takes files in.
func (m names) take(l []api.File) {
	for _, f := range l {
		if old, ok := m[f.Name]; !ok || newer(f, old) {
			m[f.Name] = f
		}
	}
}

// newer: is a file newer than another one? What counts is laid in rows of bytes that rise as it does.
func newer(a, b api.File) bool {
	row := func(f api.File) string {
		return fmt.Sprintf("%09d %d %v ", f.Stamp, f.Node, f.Gone) + string(f.Bytes)
	}
	return row(a) > row(b)
}

// files: all files, rising.
func (m names) files() []api.File {
	var out []api.File
	for _, f := range m {
		out = append(out, f)
	}
	slices.SortFunc(out, func(a, b api.File) int { return strings.Compare(a.Name, b.Name) })
	return out
}

// stamp: the greatest Stamp of all, at least that one.
func (m names) stamp(least int) int {
	for _, f := range m {
		least = max(least, f.Stamp)
	}
	return least
}

// model: a world by the chapter's words. It has no lists in it that are written to: what is new is made anew.
type model struct {
	nodes []names
	clock []int
	net   []letter
}

type letter struct {
	to    int
	files names
}

// modelOf: the model of a world that is right.
func modelOf(w api.World) *model {
	m := &model{clock: slices.Clone(w.Clock)}
	for _, l := range w.Nodes {
		m.nodes = append(m.nodes, namesOf(l))
	}
	for _, x := range w.Net {
		m.net = append(m.net, letter{x.To, namesOf(x.Files)})
	}
	return m
}

// world: the world that a model is of.
func (m *model) world() api.World {
	w := api.World{Clock: slices.Clone(m.clock)}
	for _, n := range m.nodes {
		w.Nodes = append(w.Nodes, n.files())
	}
	for _, x := range m.net {
		w.Net = append(w.Net, api.Message{To: x.to, Files: x.files.files()})
	}
	return w
}

// isNode: is there such a node?
func (m *model) isNode(i int) bool { return i >= 0 && i < len(m.nodes) }

// do: what happens, by the chapter's words.
func (m *model) do(x api.Happening) api.Errno {
	switch x.Kind {
	case api.Put, api.Take:
		return m.file(x)
	case api.Send:
		if !m.isNode(x.Node) || !m.isNode(x.To) {
			return api.ErrWho
		}
		if len(m.net) == 20 {
			return api.ErrFull
		}
		m.net = append(m.net, letter{x.To, namesOf(m.nodes[x.Node].files())})
		return api.OK
	case api.Arrive, api.Lose, api.Double:
		if x.To < 0 || x.To >= len(m.net) {
			return api.ErrWho
		}
		return m.message(x)
	}
	return api.ErrRange
}

func (m *model) file(x api.Happening) api.Errno {
	if !m.isNode(x.Node) {
		return api.ErrWho
	}
	if e := name.Check(x.Name); e != api.OK {
		return e
	}
	if m.clock[x.Node] == 1000000 {
		return api.ErrFull
	}
	own := m.nodes[x.Node]
	old, ok := own[x.Name]
	if x.Kind == api.Put && len(x.Bytes) > 3000 {
		return api.ErrMany
	}
	if x.Kind == api.Take && (!ok || old.Gone) {
		return api.ErrWho
	}
	if !ok && len(own) == 12 {
		return api.ErrFull
	}
	m.clock[x.Node]++
	own[x.Name] = file(x.Name, m.clock[x.Node], x.Node, string(x.Bytes))
	if x.Kind == api.Take {
		own[x.Name] = gone(x.Name, m.clock[x.Node], x.Node)
	}
	return api.OK
}

func (m *model) message(x api.Happening) api.Errno {
	got := m.net[x.To]
	switch x.Kind {
	case api.Double:
		if len(m.net) == 20 {
			return api.ErrFull
		}
		m.net = append(m.net, got)
		return api.OK
	case api.Arrive:
		both := namesOf(append(m.nodes[got.to].files(), got.files.files()...))
		if len(both) > 12 {
			return api.ErrFull
		}
		m.nodes[got.to], m.clock[got.to] = both, both.stamp(m.clock[got.to])
	}
	m.net = append(slices.Clone(m.net[:x.To]), m.net[x.To+1:]...)
	return api.OK
}

// settle: what comes of telling all, by the chapter's words.
func (m *model) settle() api.Errno {
	all := names{}
	for _, n := range m.nodes {
		all.take(n.files())
	}
	if len(all) > 12 {
		return api.ErrFull
	}
	for i := range m.nodes {
		m.nodes[i], m.clock[i] = all, all.stamp(m.clock[i])
	}
	m.net = nil
	return api.OK
}

// modelCheck: Check by the chapter's words.
func modelCheck(w api.World) api.Errno {
	if len(w.Nodes) == 0 || len(w.Nodes) > 4 || len(w.Clock) != len(w.Nodes) {
		return api.ErrRange
	}
	if len(w.Net) > 20 {
		return api.ErrMany
	}
	for i, l := range w.Nodes {
		if e := merge.Check(l); e != api.OK {
			return e
		}
		if w.Clock[i] < 0 || w.Clock[i] > 1000000 {
			return api.ErrRange
		}
		for _, f := range l {
			if w.Clock[i] < f.Stamp {
				return api.ErrRange
			}
		}
	}
	for _, m := range w.Net {
		if e := merge.Check(m.Files); e != api.OK {
			return e
		}
		if m.To < 0 || m.To >= len(w.Nodes) {
			return api.ErrWho
		}
	}
	return api.OK
}

// wantWorld: a call must answer this world, and no error; Check must take it.
func wantWorld(t *testing.T, what string, got api.World, e api.Errno, want api.World) {
	t.Helper()
	if e != api.OK || !sameWorld(got, want) {
		t.Errorf("%s: %s, %v, want %s", what, shortWorld(got), e, shortWorld(want))
	}
	if e := world.Check(got); e != api.OK {
		t.Errorf("%s: Check of the answer: %v", what, e)
	}
}

// wantNoWorld: a call must answer this error, and nothing else.
func wantNoWorld(t *testing.T, what string, got api.World, e, want api.Errno) {
	t.Helper()
	if e != want || !nothing(got) {
		t.Errorf("%s: %s, %v, want %v", what, shortWorld(got), e, want)
	}
}

// wantDone: a happening must make this world of that one.
func wantDone(t *testing.T, w api.World, x api.Happening, want api.World) {
	t.Helper()
	got, e := world.Do(w, x)
	wantWorld(t, shortHappening(x), got, e, want)
	wantAsModel(t, w, x)
}

// wantUndone: a happening must have this error.
func wantUndone(t *testing.T, w api.World, x api.Happening, want api.Errno) {
	t.Helper()
	got, e := world.Do(w, x)
	wantNoWorld(t, shortHappening(x), got, e, want)
	wantAsModel(t, w, x)
}

// wantAsModel: a happening in a world that is right must do what the chapter's words say.
func wantAsModel(t *testing.T, w api.World, x api.Happening) {
	t.Helper()
	m := modelOf(w)
	want := m.do(x)
	got, e := world.Do(w, x)
	if want == api.OK {
		wantWorld(t, "by the words, "+shortHappening(x), got, e, m.world())
	} else {
		wantNoWorld(t, "by the words, "+shortHappening(x), got, e, want)
	}
}

// wantRefused: all that take a world must say that this is wrong with it, whatever happens.
func wantRefused(t *testing.T, what string, w api.World, want api.Errno) {
	t.Helper()
	if e := modelCheck(w); e != want {
		t.Errorf("%s: by the words %v, want %v", what, e, want)
	}
	if e := world.Check(w); e != want {
		t.Errorf("%s: Check: %v, want %v", what, e, want)
	}
	got, e := world.Settle(w)
	wantNoWorld(t, what+": Settle", got, e, want)
	for _, x := range []api.Happening{{}, put(0, "a", "x"), put(9, "a", "x"), take(0, "a"), send(0, 0), send(0, 9), arrive(0), lose(0), double(0), double(99)} {
		got, e := world.Do(w, x)
		wantNoWorld(t, what+": Do, "+shortHappening(x), got, e, want)
	}
}
