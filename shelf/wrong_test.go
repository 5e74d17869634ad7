package shelf_test

import (
	"bytes"
	"encoding/binary"
	"fmt"
	"hash/crc32"
	"slices"
	"testing"

	"reliquary/api"
	"reliquary/shelf"
	"reliquary/zip"
)

// sumOf: the CRC of bytes, as it stands in a row.
func sumOf(b []byte) []byte { return binary.LittleEndian.AppendUint32(nil, crc32.ChecksumIEEE(b)) }

// headed: an archive behind a head that tells these.
func headed(long, sum uint32, archive []byte) []byte {
	out := binary.LittleEndian.AppendUint32(nil, long)
	return append(binary.LittleEndian.AppendUint32(out, sum), archive...)
}

// plain: an archive of two files.
func plain(t *testing.T) []byte {
	t.Helper()
	archive, e := zip.Write([]api.File{put("a", 1, 0, "x"), put("b", 2, 1, "yz")})
	if e != api.OK {
		t.Fatal(e)
	}
	return archive
}

// otherSum: an archive with a file whose sum isn't that of its bytes, in both rows alike.
func otherSum(t *testing.T) []byte {
	t.Helper()
	archive := plain(t)
	for _, at := range []int{14, bytes.Index(archive, []byte("PK\x01\x02")) + 16} {
		archive[at] ^= 1
	}
	if _, e := zip.Read(archive); e != api.ErrSum {
		t.Fatalf("Read: %v, want ErrSum", e)
	}
	return archive
}

type wrong struct {
	what string
	row  []byte
}

// wrongs: what no record is, each in its own way.
func wrongs(t *testing.T) []wrong {
	t.Helper()
	a := plain(t)
	sum, long := crc32.ChecksumIEEE(a), uint32(len(a))
	great := rec(make([]byte, api.MaxArchive+1))
	return []wrong{
		{"an archive cut by one", rec(a)[:len(a)+7]},
		{"an archive cut by one, with its sum", headed(long, crc32.ChecksumIEEE(a[:long-1]), a[:long-1])},
		{"a head alone", rec(a)[:8]},
		{"zeros", make([]byte, 8)},
		{"more zeros", make([]byte, 100)},
		{"one fewer told", headed(long-1, sum, a)},
		{"one fewer told, with its sum", headed(long-1, crc32.ChecksumIEEE(a[:long-1]), a)},
		{"one more told", headed(long+1, sum, append(slices.Clone(a), 0))},
		{"one more told, with its sum", rec(append(slices.Clone(a), 0))},
		{"as many as can be told", headed(1<<32-1, sum, a)},
		{"a number that looks negative", headed(1<<31, sum, a)},
		{"a number that looks negative, by more", headed(1<<32-8, sum, a)},
		{"a number whose lower half is right", headed(long+1<<16, sum, a)},
		{"another sum", headed(long, sum+1, a)},
		{"no sum", headed(long, 0, a)},
		{"the sum turned", headed(long, ^sum, a)},
		{"the sum the other way round", headed(long, uint32(binary.BigEndian.Uint32(sumOf(a))), a)},
		{"numbers with the highest byte first", slices.Concat(binary.BigEndian.AppendUint32(nil, long), sumOf(a), a)},
		{"sum and number exchanged", headed(sum, long, a)},
		{"no archive", rec([]byte("no archive"))},
		{"an empty archive", rec(nil)},
		{"an archive whose file has another sum", rec(otherSum(t))},
		{"two archives", rec(slices.Concat(a, a))},
		{"an archive too great", great},
		{"an archive too great, and no sum", headed(api.MaxArchive+1, 0, great[8:])},
	}
}

// Whatever is wrong with a record, those ahead stay, and those behind are left out, right or not.
func TestWrongRecords(t *testing.T) {
	for _, w := range wrongs(t) {
		for _, ahead := range [][]byte{nil, recs(t, lists()[0]), recs(t, lists()...)} {
			wantRecovered(t, w.what, slices.Concat(ahead, w.row), len(ahead))
			wantRecovered(t, w.what+", and more", slices.Concat(ahead, w.row, recs(t, lists()...)), len(ahead))
			wantRefused(t, w.what+", safe", api.Disk{Safe: slices.Concat(ahead, w.row)}, api.ErrTorn)
			wantRefused(t, w.what+", waiting", api.Disk{Safe: ahead, Wait: w.row}, api.ErrTorn)
			wantRefused(t, w.what+", ahead", api.Disk{Safe: slices.Concat(ahead, w.row), Wait: recs(t, lists()[0])}, api.ErrTorn)
		}
	}
}

func TestPiecesOfAHead(t *testing.T) {
	ahead := recs(t, lists()...)
	for _, b := range [][]byte{rec(plain(t)), make([]byte, 8), ofNone()} {
		for n := 1; n <= 8; n++ {
			wantRecovered(t, "a piece", b[:n], 0)
			wantRecovered(t, "a piece behind", slices.Concat(ahead, b[:n]), len(ahead))
			wantRefused(t, "a piece that is safe", api.Disk{Safe: b[:n]}, api.ErrTorn)
			wantRefused(t, "a piece that waits", api.Disk{Safe: ahead, Wait: b[:n]}, api.ErrTorn)
		}
	}
}

func TestTurnedBits(t *testing.T) {
	ahead, b := recs(t, lists()[3]), rec(plain(t))
	for i := range len(b) * 8 {
		turned := slices.Clone(b)
		turned[i/8] ^= 1 << (i % 8)
		wantRecovered(t, fmt.Sprint("bit ", i, " turned"), slices.Concat(ahead, turned, ahead), len(ahead))
	}
}

// No record may stand across what is safe and what waits: only between two records a disk may be parted.
func TestPartedDisks(t *testing.T) {
	b := recs(t, lists()...)
	ends := map[int]bool{}
	for i := range len(lists()) + 1 {
		ends[len(recs(t, lists()[:i]...))] = true
	}
	for n := range len(b) + 1 {
		d := api.Disk{Safe: b[:n], Wait: b[n:]}
		if ends[n] {
			wantFiles(t, fmt.Sprint("parted at ", n), d, allTogether(lists()...))
		} else if e := shelf.Check(d); e != api.ErrTorn || modelCheck(d) != e {
			t.Errorf("parted at %d: Check: %v, want ErrTorn", n, e)
		}
	}
	wantRefused(t, "parted by one", api.Disk{Safe: b[:1], Wait: b[1:]}, api.ErrTorn)
	wantRefused(t, "parted in a head", api.Disk{Safe: b[:len(recs(t, lists()[0]))+4], Wait: b[len(recs(t, lists()[0]))+4:]}, api.ErrTorn)
}

func TestTooManyBytes(t *testing.T) {
	full := recs(t, nearlyFull(40000)...)
	for _, b := range [][]byte{append(slices.Clone(full), 0), make([]byte, 40001), make([]byte, 100000), recs(t, nearlyFull(40001)...), slices.Concat(full, full)} {
		d, lost, e := shelf.Recover(b)
		wantNoDisk(t, "too many", d, e, api.ErrMany)
		if lost != 0 {
			t.Errorf("%d lost, with an error", lost)
		}
		for _, n := range []int{0, 1, 3130, 20000, 40000, len(b)} {
			wantRefused(t, fmt.Sprint("too many, ", n, " safe"), api.Disk{Safe: b[:n], Wait: b[n:]}, api.ErrMany)
		}
	}
	wantRecovered(t, "zeros", make([]byte, 40000), 0)
	wantRecovered(t, "a record and zeros", append(rec(plain(t)), make([]byte, 40000-8-len(plain(t)))...), 8+len(plain(t)))
	wantRefused(t, "zeros", api.Disk{Safe: make([]byte, 20000), Wait: make([]byte, 20000)}, api.ErrTorn)
}

// Add says what is wrong with the files alone, then that they are too many with the others, then that there is no room.
func TestAddsErrors(t *testing.T) {
	twelve := api.Disk{Safe: recs(t, many('a', 12))}
	full := api.Disk{Safe: recs(t, nearlyFull(40000)...)}
	tooLong := string(make([]byte, api.MaxBytes+1))
	for _, c := range []struct {
		what string
		l    []api.File
		want api.Errno
	}{
		{"a name that is none", []api.File{put("..", 1, 0, "")}, api.ErrText},
		{"thirteen", many('a', 13), api.ErrMany},
		{"too many Bytes", []api.File{put("a", 1, 0, tooLong)}, api.ErrMany},
		{"a Stamp that may not be", []api.File{put("z", -1, 0, "")}, api.ErrRange},
		{"a Node that may not be", []api.File{put("z", 1, api.MaxNodes, "")}, api.ErrRange},
		{"Gone, with Bytes", []api.File{{Name: "z", Gone: true, Bytes: []byte("x")}}, api.ErrForm},
		{"names that fall", []api.File{put("z", 1, 0, ""), put("y", 1, 0, "")}, api.ErrForm},
		{"the first of two", []api.File{put("z", -1, 0, ""), put("", 1, 0, "")}, api.ErrRange},
		{"an archive too great", greatFiles('a', 1), api.ErrFull},
	} {
		for _, d := range []api.Disk{{}, twelve, full, {Wait: twelve.Safe}} {
			got, e := shelf.Add(d, c.l)
			wantNoDisk(t, c.what, got, e, c.want)
		}
	}
	got, e := shelf.Add(twelve, []api.File{put("z", 1, 0, "")})
	wantNoDisk(t, "too many with the others", got, e, api.ErrFull)
	got, e = shelf.Add(full, []api.File{put("a", 1, 0, "")})
	wantNoDisk(t, "no room", got, e, api.ErrFull)
}

// mixed: records, wrong ones and pieces of them, as it comes.
func (s *source) mixed(t *testing.T, w []wrong) []byte {
	t.Helper()
	var b []byte
	for range s.next(7) {
		row := recs(t, s.someFiles())
		switch s.next(14) {
		case 0:
			row = row[:s.next(len(row))]
		case 1:
			row[s.next(len(row))] ^= byte(1 + s.next(255))
		case 2:
			row = w[s.next(len(w))].row
		case 3:
			row = noise(s.next(20), uint32(s.next(1000)))
		}
		b = append(b, row...)
	}
	return b
}

func TestManyMixedRows(t *testing.T) {
	s, w := source(120), wrongs(t)
	parts := [4]int{}
	for range 600 {
		b := s.mixed(t, w)
		_, rest := modelSplit(b)
		wantRecovered(t, "mixed", b, len(b)-len(rest))
		n := s.next(len(b) + 1)
		if s.next(2) == 0 {
			n = len(b) - len(rest)
		}
		d := api.Disk{Safe: b[:n], Wait: b[n:]}
		want := modelCheck(d)
		if want != api.OK {
			wantRefused(t, "mixed", d, want)
			parts[1]++
			continue
		}
		lists, _ := modelSplit(b)
		wantFiles(t, "mixed", d, allTogether(lists...))
		parts[0]++
	}
	if parts[0] < 50 || parts[1] < 50 {
		t.Errorf("too few of one kind: %v", parts)
	}
}
