package shelf_test

import (
	"fmt"
	"slices"
	"strings"
	"testing"

	"reliquary/api"
	"reliquary/shelf"
)

// history: what was added to a disk, the records of it, and how many of these are safe.
type history struct {
	lists [][]api.File
	rows  [][]byte
	safe  int
}

// historyOf: a history in which these were added.
func historyOf(t *testing.T, safe int, lists ...[]api.File) history {
	t.Helper()
	h := history{lists: lists, safe: safe}
	for _, l := range lists {
		h.rows = append(h.rows, recs(t, l))
	}
	return h
}

func (h history) disk() api.Disk {
	return api.Disk{Safe: slices.Concat(h.rows[:h.safe]...), Wait: slices.Concat(h.rows[h.safe:]...)}
}

// wantCut: what is recovered of a disk that was cut must be what it had behind some Add, and no earlier than what was safe.
// It answers the history up to there.
func (h history) wantCut(t *testing.T, n int) history {
	t.Helper()
	d := h.disk()
	what := fmt.Sprintf("Cut at %d of %s", n, sizes(d))
	got, lost, e := shelf.Cut(d, n)
	left := n
	for behind := h.safe; behind < len(h.rows) && left >= len(h.rows[behind]); behind++ {
		left -= len(h.rows[behind])
		h.safe = behind + 1
	}
	h.lists, h.rows = h.lists[:h.safe], h.rows[:h.safe]
	wantDisk(t, what, got, e, h.disk())
	if lost != left {
		t.Errorf("%s: %d lost, want %d", what, lost, left)
	}
	wantFiles(t, what, got, allTogether(h.lists...))
	return h
}

// wantPacked: a disk that is packed anew must have the same files. It answers the history of the packed one.
func (h history) wantPacked(t *testing.T) history {
	t.Helper()
	files := allTogether(h.lists...)
	packed := historyOf(t, 1, files)
	got, e := shelf.Pack(h.disk())
	wantDisk(t, "packed", got, e, packed.disk())
	wantFiles(t, "packed", got, files)
	return packed
}

func TestEachCut(t *testing.T) {
	for safe := range len(lists()) + 1 {
		h := historyOf(t, safe, lists()...)
		var times [5]int
		for n := range len(h.disk().Wait) + 1 {
			cut := h.wantCut(t, n)
			if times[cut.safe] == 0 {
				cut.wantPacked(t)
			}
			times[cut.safe]++
		}
		for i, many := range times {
			if i >= safe && many == 0 || i < safe && many > 0 {
				t.Errorf("%d safe: so many cuts left none, one, two..: %v", safe, times)
			}
		}
	}
}

func TestCutOutOfRange(t *testing.T) {
	d := historyOf(t, 2, lists()...).disk()
	long := len(d.Wait)
	for _, n := range []int{-1, -2, -long, long + 1, long + 2, 40000, 1 << 30, -1 << 31, 1<<63 - 1, -1 << 63} {
		got, lost, e := shelf.Cut(d, n)
		wantNoDisk(t, fmt.Sprint("Cut at ", n), got, e, api.ErrRange)
		if lost != 0 {
			t.Errorf("Cut at %d: %d lost, with an error", n, lost)
		}
	}
	for _, d := range []api.Disk{{}, {Safe: d.Safe}} {
		for _, n := range []int{-1, 1} {
			got, _, e := shelf.Cut(d, n)
			wantNoDisk(t, fmt.Sprint("Cut at ", n, " of nothing that waits"), got, e, api.ErrRange)
		}
	}
}

// someFiles: a list of some of a few names.
func (s *source) someFiles() []api.File {
	var l []api.File
	for i := range 14 {
		if s.next(6) > 0 {
			continue
		}
		f := put(string(rune('a'+i)), s.next(9), s.next(api.MaxNodes), strings.Repeat("ab", s.next(5)))
		switch s.next(6) {
		case 0, 1:
			f = gone(f.Name, f.Stamp, f.Node)
		case 2:
			f.Bytes = noise(s.next(900), uint32(s.next(1000)))
		}
		l = append(l, f)
	}
	return l[:min(len(l), api.MaxFiles)]
}

// add: what Add must make of a history.
func (h history) add(t *testing.T, l []api.File) (history, api.Errno) {
	t.Helper()
	more := history{append(slices.Clone(h.lists), l), append(slices.Clone(h.rows), recs(t, l)), h.safe}
	if len(allTogether(more.lists...)) > 12 || len(slices.Concat(more.rows...)) > 40000 {
		return h, api.ErrFull
	}
	return more, api.OK
}

// step does something to a disk; calm: nothing is lost, nothing is packed.
func (s *source) step(t *testing.T, h history, calm bool) (history, api.Errno) {
	t.Helper()
	d := h.disk()
	switch s.next(12) {
	case 0:
		h.safe = len(h.rows)
		got, e := shelf.Flush(d)
		wantDisk(t, "flushed", got, e, h.disk())
		return h, e
	case 1:
		if !calm {
			return h.wantCut(t, s.next(len(d.Wait)+1)), api.OK
		}
	case 2:
		if !calm {
			return h.wantPacked(t), api.OK
		}
	}
	l := s.someFiles()
	h, want := h.add(t, l)
	got, e := shelf.Add(d, l)
	if want == api.OK {
		wantDisk(t, "added", got, e, h.disk())
	} else {
		wantNoDisk(t, "no room", got, e, want)
	}
	return h, want
}

func TestManyHistories(t *testing.T) {
	s := source(12)
	greatest, refused := 0, 0
	for i := range 30 {
		h, calm, steps := history{}, i%10 == 0, 40
		if calm {
			steps = 140
		}
		for range steps {
			next, e := s.step(t, h, calm)
			if e != api.OK {
				refused++
			}
			h = next
			greatest = max(greatest, len(slices.Concat(h.rows...)))
		}
		wantFiles(t, "history", h.disk(), allTogether(h.lists...))
	}
	if greatest < 39000 || refused < 10 {
		t.Errorf("never more than %d bytes, and %d times no room", greatest, refused)
	}
}
