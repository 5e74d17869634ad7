package zip

// What stands ahead of an entry in the first row, of one in the second, and of the end.
const (
	firstMark  = 0x04034B50
	secondMark = 0x02014B50
	endMark    = 0x06054B50
)

// What else is always the same.
const (
	version   = 20
	extraMark = 0x7271
	extraSize = 11
)

// archive answers the archive of entries: twice a row of them, and the end.
func archive(l []entry) []byte {
	w := &writer{}
	var places []int
	for _, x := range l {
		places = append(places, len(w.row))
		w.first(x)
	}
	begin := len(w.row)
	for i, x := range l {
		w.second(x, places[i])
	}
	w.end(len(l), len(w.row)-begin, begin)
	return w.row
}

// writer puts one thing behind the other.
type writer struct{ row []byte }

// first puts an entry as the first row has it.
func (w *writer) first(x entry) {
	w.number(4, firstMark)
	w.middle(x)
	w.row = append(w.row, x.file.Name...)
	w.extra(x)
	w.row = append(w.row, x.packed...)
}

// second puts an entry as the second row has it: its packed bytes are told by their place.
func (w *writer) second(x entry, place int) {
	w.number(4, secondMark)
	w.number(2, version)
	w.middle(x)
	w.zeros(10)
	w.number(4, uint32(place))
	w.row = append(w.row, x.file.Name...)
	w.extra(x)
}

// end puts what tells of the second row: how many entries and bytes it has, and where it begins.
func (w *writer) end(many, size, begin int) {
	w.number(4, endMark)
	w.zeros(4)
	w.number(2, uint32(many))
	w.number(2, uint32(many))
	w.number(4, uint32(size))
	w.number(4, uint32(begin))
	w.zeros(2)
}

// middle puts what both rows say of an entry ahead of its name.
func (w *writer) middle(x entry) {
	w.number(2, version)
	w.zeros(2)
	w.number(2, x.method)
	w.zeros(4)
	w.number(4, x.sum)
	w.number(4, uint32(len(x.packed)))
	w.number(4, uint32(len(x.file.Bytes)))
	w.number(2, uint32(len(x.file.Name)))
	w.number(2, extraSize)
}

// extra puts what both rows say of an entry behind its name.
func (w *writer) extra(x entry) {
	w.number(2, extraMark)
	w.number(2, extraSize-4)
	w.number(4, uint32(x.file.Stamp))
	w.number(2, uint32(x.file.Node))
	gone := uint32(0)
	if x.file.Gone {
		gone = 1
	}
	w.number(1, gone)
}

// number puts a number of so many bytes, the lowest one first.
func (w *writer) number(size int, n uint32) {
	for i := range size {
		w.row = append(w.row, byte(n>>(8*i)))
	}
}

func (w *writer) zeros(many int) { w.number(many, 0) }
