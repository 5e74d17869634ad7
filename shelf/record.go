package shelf

import (
	"reliquary/api"
	"reliquary/merge"
	"reliquary/sum"
	"reliquary/zip"
)

// headSize is how many bytes of a record stand ahead of its archive.
const headSize = 8

// head is what a record tells of its archive: how many bytes it has, and its CRC.
type head [2]uint32

// headOf answers the head of an archive. It has no more than api.MaxArchive bytes, which CRC takes.
func headOf(archive []byte) head {
	crc, _ := sum.CRC(0, archive)
	return head{uint32(len(archive)), crc}
}

// row answers a head's bytes: of each number the lowest one first.
func (h head) row() [headSize]byte {
	var row [headSize]byte
	for i := range row {
		row[i] = byte(h[i/4] >> (i % 4 * 8))
	}
	return row
}

// headIn answers the head that stands in a row.
func headIn(row [headSize]byte) head {
	var h head
	for i, b := range row {
		h[i/4] |= uint32(b) << (i % 4 * 8)
	}
	return h
}

// record answers the record of an archive.
func record(archive []byte) []byte {
	row := headOf(archive).row()
	return append(row[:], archive...)
}

// together answers what the records that a row begins with make together, and where these end.
func together(b []byte) (files []api.File, end int) {
	for {
		archive, ok := firstArchive(b[end:])
		if !ok {
			return files, end
		}
		both, ok := withArchive(files, archive)
		if !ok {
			return files, end
		}
		files, end = both, end+headSize+len(archive)
	}
}

// firstArchive answers the archive of the record that a row begins with; not ok: the record isn't whole, or its archive
// isn't as its head tells.
func firstArchive(b []byte) (archive []byte, ok bool) {
	if len(b) < headSize {
		return nil, false
	}
	told, rest := headIn([headSize]byte(b)), b[headSize:]
	// An archive of more bytes is refused whatever its sum is.
	if told[0] > api.MaxArchive || int(told[0]) > len(rest) {
		return nil, false
	}
	archive = rest[:told[0]]
	return archive, headOf(archive) == told
}

// withArchive answers what files and those of an archive make together; not ok: the archive can't be read, or they are
// too many.
func withArchive(files []api.File, archive []byte) (both []api.File, ok bool) {
	more, e := zip.Read(archive)
	if e != api.OK {
		return nil, false
	}
	both, e = merge.Both(files, more)
	return both, e == api.OK
}
