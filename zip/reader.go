package zip

import "reliquary/api"

// entriesOf answers the entries of which a row may be the archive: what the first row says of them. That all else is
// as these ask for is left to whoever holds their archive against the row.
func entriesOf(b []byte) (l []entry, e api.Errno) {
	e = caught(func() { l = (&reader{row: b}).entries() })
	return l, e
}

// torn is what a reading gives up by.
type torn struct{}

// caught answers whether a reading gave up. A panic that is of another kind is not for it to hide, and goes on.
func caught(read func()) (e api.Errno) {
	defer func() {
		cause := recover()
		if _, ok := cause.(torn); ok {
			e = api.ErrTorn
		} else if cause != nil {
			panic(cause)
		}
	}()
	read()
	return api.OK
}

// reader reads a row from its first byte on; it gives up by a panic.
type reader struct {
	row []byte
	at  int
}

// entries reads the first row of entries, up to the first mark of another thing.
func (r *reader) entries() []entry {
	var l []entry
	for r.number(4) == firstMark {
		l = append(l, r.entry())
	}
	return l
}

// entry reads what stands behind an entry's mark. What is passed over hangs on what is read.
func (r *reader) entry() entry {
	var x entry
	r.bytes(4)
	x.method = r.number(2)
	r.bytes(4)
	x.sum = r.number(4)
	packed := r.number(4)
	r.bytes(4)
	named := r.number(2)
	r.bytes(2)
	x.file.Name = string(r.bytes(named))
	r.bytes(4)
	x.file.Stamp = int(r.number(4))
	x.file.Node = int(r.number(2))
	x.file.Gone = r.number(1) == 1
	x.packed = r.bytes(packed)
	b, ok := unpacked(x.method, x.packed)
	if !ok {
		panic(torn{})
	}
	x.file.Bytes = b
	return x
}

// number reads a number of so many bytes, the lowest one first.
func (r *reader) number(size uint32) uint32 {
	n := uint32(0)
	for i, b := range r.bytes(size) {
		n |= uint32(b) << (8 * i)
	}
	return n
}

// bytes reads so many bytes, which stay the row's own.
func (r *reader) bytes(many uint32) []byte {
	rest := r.row[r.at:]
	if uint64(many) > uint64(len(rest)) {
		panic(torn{})
	}
	r.at += int(many)
	return rest[:many]
}
