package shelf_test

import (
	"bytes"
	"slices"
	"strings"
	"testing"

	"reliquary/api"
	"reliquary/shelf"
)

// roomyBytes: bytes with spare room that isn't empty, enough of it for whatever could be put behind them.
func roomyBytes(b []byte) []byte {
	return append(slices.Clone(b), strings.Repeat("spare room ", 400)...)[:len(b)]
}

// roomyFiles: a list with spare room that isn't empty, of files whose bytes have such room.
func roomyFiles(l []api.File) []api.File {
	var out []api.File
	for _, f := range append(slices.Clone(l), put("spare", 1, 1, "spare"), gone("room", 2, 2)) {
		f.Bytes = roomyBytes(f.Bytes)
		out = append(out, f)
	}
	return out[:len(l)]
}

func roomyDisk(d api.Disk) api.Disk {
	return api.Disk{Safe: roomyBytes(d.Safe), Wait: roomyBytes(d.Wait)}
}

func wholeBytes(b []byte) []byte { return bytes.Clone(b[:cap(b)]) }

// wholeFiles: a list with its spare room, and its files' bytes with theirs.
func wholeFiles(l []api.File) []api.File {
	var out []api.File
	for _, f := range l[:cap(l)] {
		f.Bytes = wholeBytes(f.Bytes)
		out = append(out, f)
	}
	return out
}

func wholeDisk(d api.Disk) api.Disk {
	return api.Disk{Safe: wholeBytes(d.Safe), Wait: wholeBytes(d.Wait)}
}

// scribble writes over bytes and their spare room.
func scribble(b []byte) {
	b = b[:cap(b)]
	for i := range b {
		b[i] = 255
	}
}

func scribbleFiles(l []api.File) {
	l = l[:cap(l)]
	for i := range l {
		scribble(l[i].Bytes)
		l[i] = put("scribbled", -9, -9, "scribbled")
	}
}

func scribbleDisk(d api.Disk) {
	scribble(d.Safe)
	scribble(d.Wait)
}

// answer: all that the calls answer to a disk and files.
type answer struct {
	files []api.File
	disks []api.Disk
}

// asked: what all calls answer.
func asked(d api.Disk, l []api.File) answer {
	var a answer
	shelf.Check(d)
	a.files, _ = shelf.Files(d)
	added, _ := shelf.Add(d, l)
	flushed, _ := shelf.Flush(d)
	packed, _ := shelf.Pack(d)
	safe, _, _ := shelf.Recover(d.Safe)
	waiting, _, _ := shelf.Recover(d.Wait)
	a.disks = []api.Disk{added, flushed, packed, safe, waiting}
	for _, n := range []int{0, 1, len(d.Wait) / 2, len(d.Wait), len(d.Wait) + 1} {
		cut, _, _ := shelf.Cut(d, n)
		a.disks = append(a.disks, cut)
	}
	return a
}

// scribble writes over all that was answered.
func (a answer) scribble() {
	scribbleFiles(a.files)
	for _, d := range a.disks {
		scribbleDisk(d)
	}
}

// kept: the same, in other memory.
func (a answer) kept() answer {
	var out answer
	for _, f := range a.files {
		f.Bytes = bytes.Clone(f.Bytes)
		out.files = append(out.files, f)
	}
	for _, d := range a.disks {
		out.disks = append(out.disks, api.Disk{Safe: bytes.Clone(d.Safe), Wait: bytes.Clone(d.Wait)})
	}
	return out
}

func sameAnswers(a, b answer) bool {
	return sameFiles(a.files, b.files) && slices.EqualFunc(a.disks, b.disks, sameDisk)
}

// disks: some of all sorts: right, torn, too great.
func disks(t *testing.T) []api.Disk {
	t.Helper()
	b := recs(t, lists()...)
	n := len(recs(t, lists()[:2]...))
	return []api.Disk{
		{}, {Safe: b}, {Wait: b}, {Safe: b[:n], Wait: b[n:]},
		{Safe: b[:n-1], Wait: b[n-1:]}, {Safe: b[:n], Wait: b[n : len(b)-1]}, {Safe: b, Wait: make([]byte, 40000)},
		{Safe: recs(t, many('a', 12))}, {Wait: recs(t, nearlyFull(40000)...)},
	}
}

// added: files of all sorts: none, some, wrong ones.
func added() [][]api.File {
	return [][]api.File{nil, lists()[3], {put("z", 1, 0, "x")}, {put("..", 1, 0, "x")}, {put("a", -1, 0, "x")}}
}

func TestOnlyReads(t *testing.T) {
	for i, d := range disks(t) {
		for _, l := range added() {
			d, l := roomyDisk(d), roomyFiles(l)
			keptDisk, keptFiles := wholeDisk(d), wholeFiles(l)
			a := asked(d, l)
			if !sameDisk(wholeDisk(d), keptDisk) || !sameFiles(wholeFiles(l), keptFiles) {
				t.Errorf("disk %d, %s: what was handed in was changed, or its spare room", i, short(l))
			}
			a.scribble()
			if !sameDisk(wholeDisk(d), keptDisk) || !sameFiles(wholeFiles(l), keptFiles) {
				t.Errorf("disk %d, %s: an answer shares memory with what was handed in", i, short(l))
			}
		}
	}
}

// What waits may lie in the spare room of what is safe.
func TestPiecesOfOneRow(t *testing.T) {
	b := recs(t, lists()...)
	for i := range len(lists()) + 1 {
		n := len(recs(t, lists()[:i]...))
		row := roomyBytes(b)
		kept := wholeBytes(row)
		d := api.Disk{Safe: row[:n], Wait: row[n:]}
		got, want := asked(d, added()[1]), asked(historyOf(t, i, lists()...).disk(), added()[1])
		if !sameAnswers(got, want) {
			t.Errorf("%d safe: pieces of one row are taken in another way", i)
		}
		got.scribble()
		if !bytes.Equal(wholeBytes(row), kept) {
			t.Errorf("%d safe: what was handed in was changed", i)
		}
	}
}

// Writing over what was handed in, or over another answer, doesn't reach an answer: nothing of it is kept.
func TestAnswersStayAsTheyWere(t *testing.T) {
	for i, d := range disks(t) {
		for _, l := range added() {
			d, l := roomyDisk(d), roomyFiles(l)
			a := asked(d, l)
			kept := a.kept()
			asked(d, l).scribble()
			scribbleDisk(d)
			scribbleFiles(l)
			if !sameAnswers(a, kept) {
				t.Errorf("disk %d, %s: an answer shares memory", i, short(l))
			}
		}
	}
}

// The lists of one answer stay apart, with their spare room.
func TestListsOfOneAnswerStayApart(t *testing.T) {
	for i, d := range disks(t) {
		a := asked(d, lists()[3])
		for k, got := range a.disks {
			kept := bytes.Clone(got.Wait)
			scribble(got.Safe)
			if !bytes.Equal(got.Wait, kept) {
				t.Errorf("disk %d, answer %d: Safe and Wait share memory", i, k)
			}
			safe := bytes.Clone(got.Safe)
			clear(got.Wait[:cap(got.Wait)])
			if !bytes.Equal(got.Safe, safe) {
				t.Errorf("disk %d, answer %d: Wait and Safe share memory", i, k)
			}
		}
		for k := range a.files {
			room := a.files[k].Bytes[:cap(a.files[k].Bytes)]
			for at := range room {
				room[at] = byte(k)
			}
		}
		for k, f := range a.files {
			if !bytes.Equal(f.Bytes, bytes.Repeat([]byte{byte(k)}, len(f.Bytes))) {
				t.Errorf("disk %d: lists of one answer share memory", i)
			}
		}
	}
}

// Neither what was called ahead, nor spare room, nor whether nothing is nil or empty is to be seen in an answer.
func TestAnswersHangOnArgumentsAlone(t *testing.T) {
	d, l := disks(t)[3], lists()[3]
	first := asked(d, l).kept()
	for _, ahead := range disks(t) {
		for _, other := range added() {
			asked(ahead, other)
			if !sameAnswers(asked(d, l), first) || !sameAnswers(asked(roomyDisk(d), roomyFiles(l)), first) {
				t.Fatalf("behind %s and %s the answers are others", sizes(ahead), short(other))
			}
		}
	}
	empty := api.Disk{Safe: []byte{}, Wait: []byte{}}
	if !sameAnswers(asked(empty, []api.File{}), asked(api.Disk{}, nil)) {
		t.Error("nothing, nil or empty, is taken in two ways")
	}
}
