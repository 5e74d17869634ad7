package code_test

import (
	"math"
	"slices"
	"strings"
	"testing"

	"reliquary/api"
	"reliquary/code"
)

// written: the bits of a row as text, in the order in which they stand.
func written(row []byte) string {
	var s strings.Builder
	for _, b := range row {
		for i := range 8 {
			s.WriteByte('0' + b>>i&1)
		}
	}
	return s.String()
}

// row: a text of bits as a row, with zeros up to whole bytes.
func row(s string) []byte {
	b := make([]byte, (len(s)+7)/8)
	for i := range len(s) {
		b[i/8] |= (s[i] - '0') << (i % 8)
	}
	return b
}

// highestFirst: a code of so many bits as text.
func highestFirst(n, size int) string {
	s := ""
	for range size {
		s = string('0'+byte(n%2)) + s
		n /= 2
	}
	return s
}

// rising: the places that have a length, by length, and of one length by place.
func rising(l []int) []int {
	var order []int
	for length := 1; length <= api.MaxBits; length++ {
		for p, n := range l {
			if n == length {
				order = append(order, p)
			}
		}
	}
	return order
}

// codesOf: the codes as the chapter tells them, one from the one ahead.
func codesOf(l []int) []int {
	codes := make([]int, len(l))
	order := rising(l)
	for i, p := range order {
		if i > 0 {
			ahead := order[i-1]
			codes[p] = (codes[ahead] + 1) << (l[p] - l[ahead])
		}
	}
	return codes
}

// textsOf: the codes as texts, "" of places without.
func textsOf(l []int) []string {
	texts := make([]string, len(l))
	for p, c := range codesOf(l) {
		texts[p] = highestFirst(c, l[p])
	}
	return texts
}

// readOf: what Read answers of lengths that make a code, word by word as the chapter tells it.
func readOf(l []int, s string, many int) ([]int, api.Errno) {
	texts := textsOf(l)
	var places []int
	for range many {
		for size := 1; ; size++ {
			if len(s) < size {
				return nil, api.ErrTorn
			}
			if p := slices.Index(texts, s[:size]); p >= 0 {
				places, s = append(places, p), s[size:]
				break
			}
			if size == api.MaxBits {
				return nil, api.ErrCode
			}
		}
	}
	return places, api.OK
}

// sumOf: the sum of 2^-n over all lengths above 0, in parts of 2^-15.
func sumOf(l []int) int {
	sum := 0
	for _, n := range l {
		if n > 0 {
			sum += 1 << 15 / (1 << n)
		}
	}
	return sum
}

// lists: all lists of so many places with lengths from 0 to most.
func lists(many, most int) [][]int {
	if many == 0 {
		return [][]int{nil}
	}
	var all [][]int
	for _, l := range lists(many-1, most) {
		for n := range most + 1 {
			all = append(all, append(slices.Clone(l), n))
		}
	}
	return all
}

// upTo: the lengths 1, 2, and so on: all codes but one of the last length.
func upTo(most int) []int {
	var l []int
	for n := range most {
		l = append(l, n+1)
	}
	return l
}

// fixed: lengths of a code that has as many places as there may be.
func fixed() []int {
	return slices.Concat(slices.Repeat([]int{8}, 144), slices.Repeat([]int{9}, 112),
		slices.Repeat([]int{7}, 24), slices.Repeat([]int{8}, 8))
}

// wide: lengths from 0 to 15, most of them with several places that don't stand side by side; there is room left.
func wide() []int {
	l := make([]int, 100)
	for i := range l {
		l[i] = []int{0, 15, 8, 14, 0, 9, 13, 10, 12, 11}[i*7%10]
	}
	l[40], l[80] = 2, 3
	return l
}

// noise: numbers from 0 to below most that differ.
func noise(many, most int) []int {
	l := make([]int, many)
	x := uint32(2024)
	for i := range l {
		x = x*1664525 + 1013904223
		l[i] = int(x>>8) % most
	}
	return l
}

// wantAll: what all calls answer of lengths that Check refuses.
func wantAll(t *testing.T, l []int, want api.Errno) {
	t.Helper()
	if e := code.Check(l); e != want {
		t.Errorf("Check of %d lengths: %v, want %v", len(l), e, want)
	}
	if full, e := code.Full(l); full || e != want {
		t.Errorf("Full of %d lengths: %v %v, want %v", len(l), full, e, want)
	}
	if codes, e := code.Codes(l); codes != nil || e != want {
		t.Errorf("Codes of %d lengths: %v %v, want %v", len(l), codes, e, want)
	}
	// The error of the lengths is told ahead of those of the others.
	for _, many := range []int{0, 1, api.MaxBytes + 1} {
		wantWrite(t, l, slices.Repeat([]int{-1}, many), nil, want)
		wantRead(t, l, nil, many, nil, want)
		wantRead(t, l, make([]byte, api.MaxPacked+1), -many, nil, want)
	}
}

func wantFull(t *testing.T, l []int, want bool) {
	t.Helper()
	if e := code.Check(l); e != api.OK {
		t.Errorf("Check of %v: %v", l, e)
	}
	if full, e := code.Full(l); full != want || e != api.OK {
		t.Errorf("Full of %v: %v %v, want %v", l, full, e, want)
	}
}

func wantCodes(t *testing.T, l, want []int) {
	t.Helper()
	codes, e := code.Codes(l)
	if !slices.Equal(codes, want) || e != api.OK {
		t.Errorf("Codes of %v: %v %v, want %v", l, codes, e, want)
	}
}

func wantWrite(t *testing.T, l, places []int, want []byte, wantErr api.Errno) {
	t.Helper()
	got, e := code.Write(l, places)
	if !slices.Equal(got, want) || e != wantErr {
		t.Errorf("Write by %d lengths of %d places: %v %v, want %v %v", len(l), len(places), got, e, want, wantErr)
	}
	if e != api.OK && got != nil {
		t.Errorf("Write: a list beside the error %v", e)
	}
}

func wantRead(t *testing.T, l []int, b []byte, many int, want []int, wantErr api.Errno) {
	t.Helper()
	got, e := code.Read(l, b, many)
	if !slices.Equal(got, want) || e != wantErr {
		t.Errorf("Read by %d lengths of %d bytes, %d places: %v %v, want %v %v", len(l), len(b), many, got, e, want, wantErr)
	}
	if e != api.OK && got != nil {
		t.Errorf("Read: a list beside the error %v", e)
	}
}

func TestFull(t *testing.T) {
	wantFull(t, nil, false)
	wantFull(t, []int{}, false)
	wantFull(t, []int{0, 0, 0}, false)
	wantFull(t, make([]int, api.MaxSymbols), false)
	wantFull(t, []int{1}, true)
	wantFull(t, []int{0, 0, 1, 0}, true)
	wantFull(t, []int{1, 1}, true)
	wantFull(t, []int{0, 1, 0, 1}, true)
	for n := 2; n <= api.MaxBits; n++ {
		wantFull(t, []int{n}, false)
		wantFull(t, []int{0, n, 0}, false)
		wantFull(t, []int{1, n}, n == 1)
	}
	wantFull(t, fixed(), true)
	wantFull(t, slices.Repeat([]int{5}, 32), true)
	wantFull(t, slices.Repeat([]int{5}, 31), false)
	wantFull(t, slices.Repeat([]int{9}, api.MaxSymbols), false)
	wantFull(t, wide(), false)
}

func TestSumOfJustOneAndJustAboveIt(t *testing.T) {
	for most := 1; most <= api.MaxBits; most++ {
		below := upTo(most)
		wantFull(t, below, most == 1)
		one := append(slices.Clone(below), most)
		wantFull(t, one, true)
		for n := 1; n <= api.MaxBits; n++ {
			wantAll(t, append(slices.Clone(one), n), api.ErrCode)
			wantAll(t, append([]int{n, 0}, one...), api.ErrCode)
		}
	}
	wantFull(t, slices.Repeat([]int{8}, 256), true)
	wantAll(t, append(slices.Repeat([]int{8}, 256), 15), api.ErrCode)
	wantAll(t, slices.Repeat([]int{1}, api.MaxSymbols), api.ErrCode)
}

func TestRange(t *testing.T) {
	for _, n := range []int{-1, api.MaxBits + 1, 63, 64, -64, math.MinInt, math.MaxInt} {
		wantAll(t, []int{n}, api.ErrRange)
		wantAll(t, []int{1, 0, n, 2}, api.ErrRange)
		// A length that may not be is told ahead of a sum that is too great, wherever it stands.
		wantAll(t, []int{1, 1, 1, n}, api.ErrRange)
		wantAll(t, []int{n, 1, 1, 1}, api.ErrRange)
	}
	wantFull(t, []int{api.MaxBits}, false)
	// Lengths that would make up for each other are wrong still.
	wantAll(t, []int{16, 16, -1}, api.ErrRange)
}

func TestMany(t *testing.T) {
	wantFull(t, slices.Repeat([]int{api.MaxBits}, api.MaxSymbols), false)
	for _, n := range []int{0, 1, api.MaxBits, -1, api.MaxBits + 1} {
		wantAll(t, slices.Repeat([]int{n}, api.MaxSymbols+1), api.ErrMany)
	}
}

func TestCodes(t *testing.T) {
	wantCodes(t, nil, nil)
	wantCodes(t, []int{0, 0}, []int{0, 0})
	wantCodes(t, []int{2, 1, 3, 3}, []int{2, 0, 6, 7})
	wantCodes(t, []int{1}, []int{0})
	wantCodes(t, []int{0, 1, 0}, []int{0, 0, 0})
	wantCodes(t, []int{15}, []int{0})
	wantCodes(t, []int{15, 1}, []int{1 << 14, 0})
	wantCodes(t, []int{3, 3, 3, 3, 3, 2, 4, 4}, []int{2, 3, 4, 5, 6, 0, 14, 15})
	wantCodes(t, []int{4, 2, 0, 2}, []int{8, 0, 0, 1})
	wantCodes(t, append(upTo(15), 15), []int{0, 2, 6, 14, 30, 62, 126, 254, 510, 1022, 2046, 4094, 8190, 16382, 32766, 32767})
	wantCodes(t, wide(), codesOf(wide()))
	codes, e := code.Codes(fixed())
	if e != api.OK {
		t.Fatalf("Codes of the greatest code: %v", e)
	}
	for p, want := range map[int]int{0: 0x30, 143: 0xBF, 144: 0x190, 255: 0x1FF, 256: 0, 279: 23, 280: 0xC0, 287: 0xC7} {
		if codes[p] != want {
			t.Errorf("the code of %d: %d, want %d", p, codes[p], want)
		}
	}
}

func TestAllShortLists(t *testing.T) {
	for many := range 6 {
		for _, l := range lists(many, 4) {
			if sumOf(l) > 1<<15 {
				wantAll(t, l, api.ErrCode)
				continue
			}
			alone := len(rising(l)) == 1 && slices.Contains(l, 1)
			wantFull(t, l, alone || sumOf(l) == 1<<15)
			wantCodes(t, l, codesOf(l))
		}
	}
}

func TestNoCodeBeginsAnotherOne(t *testing.T) {
	all := append(lists(5, 4), fixed(), wide(), append(upTo(15), 15))
	for _, l := range all {
		codes, e := code.Codes(l)
		if e != api.OK {
			continue
		}
		for p, n := range l {
			if codes[p] < 0 || codes[p] >= 1<<n {
				t.Fatalf("%v: the code %d is none of %d bits", l, codes[p], n)
			}
			for q, m := range l {
				if p != q && 0 < n && n <= m && codes[q]>>(m-n) == codes[p] {
					t.Fatalf("%v: the code of %d begins that of %d", l, p, q)
				}
			}
		}
	}
}

func TestWrite(t *testing.T) {
	l := []int{2, 1, 3, 3}
	wantWrite(t, l, nil, nil, api.OK)
	wantWrite(t, nil, nil, nil, api.OK)
	wantWrite(t, l, []int{3, 1, 0}, row("111"+"0"+"10"), api.OK)
	wantWrite(t, l, []int{2, 2, 2}, row("110"+"110"+"110"), api.OK)
	wantWrite(t, l, []int{1}, []byte{0}, api.OK)
	wantWrite(t, l, slices.Repeat([]int{1}, 9), []byte{0, 0}, api.OK)
	wantWrite(t, []int{0, 1}, []int{1, 1}, []byte{0}, api.OK)
	wantWrite(t, append(upTo(15), 15), []int{14, 15}, row("111111111111110"+"111111111111111"), api.OK)
	wantWrite(t, []int{9, 1}, []int{0}, row("100000000"), api.OK)
}

func TestWriteWho(t *testing.T) {
	l := []int{2, 0, 1}
	for _, p := range []int{-1, 1, 3, math.MinInt, math.MaxInt} {
		wantWrite(t, l, []int{p}, nil, api.ErrWho)
		wantWrite(t, l, []int{0, 2, p}, nil, api.ErrWho)
		wantWrite(t, l, []int{p, 0, 2}, nil, api.ErrWho)
	}
	wantWrite(t, nil, []int{0}, nil, api.ErrWho)
	// What stands in the spare room behind the lengths is none of them.
	wantWrite(t, []int{1, 1}[:1], []int{1}, nil, api.ErrWho)
}

func TestWriteMany(t *testing.T) {
	longest := append(upTo(15), 15)
	most := slices.Repeat([]int{15}, api.MaxBytes)
	wantWrite(t, longest, most, slices.Repeat([]byte{0xFF}, api.MaxBytes*15/8), api.OK)
	wantWrite(t, longest, append(most, 15), nil, api.ErrMany)
	// Too many are told ahead of one that is no place.
	wantWrite(t, longest, slices.Repeat([]int{-1}, api.MaxBytes+1), nil, api.ErrMany)
	wantWrite(t, longest, slices.Repeat([]int{-1}, api.MaxBytes), nil, api.ErrWho)
	wantWrite(t, nil, make([]int, api.MaxBytes+1), nil, api.ErrMany)
}

func TestRead(t *testing.T) {
	l := []int{2, 1, 3, 3}
	wantRead(t, l, []byte{0b00010111}, 3, []int{3, 1, 0}, api.OK)
	wantRead(t, l, []byte{0b00010111}, 2, []int{3, 1}, api.OK)
	wantRead(t, l, []byte{0b00010111}, 5, []int{3, 1, 0, 1, 1}, api.OK)
	wantRead(t, l, []byte{255}, 0, nil, api.OK)
	wantRead(t, l, nil, 0, nil, api.OK)
	wantRead(t, nil, nil, 0, nil, api.OK)
	wantRead(t, []int{0, 1}, []byte{0}, 8, slices.Repeat([]int{1}, 8), api.OK)
	wantRead(t, append(upTo(15), 15), row("111111111111110"+"0"+"111111111111111"), 3, []int{14, 0, 15}, api.OK)
}

func TestReadTornAndNoCode(t *testing.T) {
	wantRead(t, []int{2, 1, 3, 3}, []byte{0b00010111}, 6, nil, api.ErrTorn)
	wantRead(t, []int{2, 1, 3, 3}, nil, 1, nil, api.ErrTorn)
	wantRead(t, []int{15}, []byte{0, 0}, 1, []int{0}, api.OK)
	wantRead(t, []int{15}, []byte{0, 0}, 2, nil, api.ErrTorn)
	wantRead(t, []int{15}, []byte{0}, 1, nil, api.ErrTorn)
	wantRead(t, []int{2}, []byte{255}, 1, nil, api.ErrTorn)
	wantRead(t, []int{2}, []byte{255, 255}, 1, nil, api.ErrCode)
	// The places read ahead of the error aren't told.
	wantRead(t, []int{2}, row("00"+"1111"), 2, nil, api.ErrTorn)
	// The last of the row's bits is the last one that is asked for: they are no code, and none is missing.
	wantRead(t, []int{1}, row("0"+"111111111111111"), 2, nil, api.ErrCode)
	wantRead(t, []int{1}, row("00"+"11111111111111"), 3, nil, api.ErrTorn)
	// The first one's error is told, whatever comes behind it.
	wantRead(t, []int{1}, row("1111111111111110"), 9, nil, api.ErrCode)
	// Without lengths nothing is a code.
	for _, none := range [][]int{nil, {0}, {0, 0, 0}} {
		wantRead(t, none, nil, 1, nil, api.ErrTorn)
		wantRead(t, none, []byte{0}, 1, nil, api.ErrTorn)
		wantRead(t, none, []byte{0, 0}, 1, nil, api.ErrCode)
		wantRead(t, none, []byte{0, 0}, 0, nil, api.OK)
	}
	// What stands in the spare room behind a row is none of it.
	wantRead(t, []int{15}, []byte{0, 0, 0}[:1], 1, nil, api.ErrTorn)
}

func TestReadMany(t *testing.T) {
	l := append(upTo(15), 15)
	most := slices.Repeat([]byte{0xFF}, api.MaxPacked)
	wantRead(t, l, most, api.MaxBytes, slices.Repeat([]int{15}, api.MaxBytes), api.OK)
	wantRead(t, l, append(most, 0), 0, nil, api.ErrMany)
	wantRead(t, l, append(most, 0), 1, nil, api.ErrMany)
	for _, many := range []int{-1, api.MaxBytes + 1, math.MinInt, math.MaxInt} {
		wantRead(t, l, most, many, nil, api.ErrMany)
		// Too many are told ahead of bits that aren't there, and of those that are no code.
		wantRead(t, l, nil, many, nil, api.ErrMany)
		wantRead(t, nil, most, many, nil, api.ErrMany)
	}
	wantRead(t, l, most[:api.MaxBytes*15/8], api.MaxBytes, slices.Repeat([]int{15}, api.MaxBytes), api.OK)
	wantRead(t, l, most[:api.MaxBytes*15/8-1], api.MaxBytes, nil, api.ErrTorn)
	wantRead(t, nil, append(most, 0), 1, nil, api.ErrMany)
}

func TestReadOfAllShortLists(t *testing.T) {
	for many := range 5 {
		for _, l := range lists(many, 3) {
			if sumOf(l) > 1<<15 {
				continue
			}
			for x := range 256 {
				b := []byte{byte(x), byte(x * 37), byte(255 - x)}[:x%4]
				for places := range 4 {
					want, wantErr := readOf(l, written(b), places)
					wantRead(t, l, b, places, want, wantErr)
				}
			}
		}
	}
}

func TestReadOfWriteIsThePlaces(t *testing.T) {
	for _, l := range [][]int{{1}, {1, 1}, {2, 1, 3, 3}, {0, 15, 0, 3}, append(upTo(15), 15), fixed(), wide()} {
		have := rising(l)
		texts := textsOf(l)
		for _, many := range []int{0, 1, 2, 7, 500, api.MaxBytes} {
			places := noise(many, len(have))
			var want strings.Builder
			for i, k := range places {
				places[i] = have[k]
				want.WriteString(texts[have[k]])
			}
			b, e := code.Write(l, places)
			if e != api.OK || !slices.Equal(b, row(want.String())) {
				t.Fatalf("Write by %v of %d places: %v", l, many, e)
			}
			wantRead(t, l, b, many, places, api.OK)
		}
	}
}

func TestWhatIsHandedInStays(t *testing.T) {
	lengths := []int{2, 1, 3, 3, 7, 8, 9}
	places := []int{3, 1, 0, 2, 5, 6, 7}
	bytes := []byte{0b00010111, 1, 2, 3}
	code.Check(lengths[:4])
	code.Full(lengths[:4])
	codes, _ := code.Codes(lengths[:4])
	b, _ := code.Write(lengths[:4], places[:4])
	got, _ := code.Read(lengths[:4], bytes[:1], 3)
	for i := range codes {
		codes[i] = -1
	}
	for i := range b {
		b[i] = 255
	}
	for i := range got {
		got[i] = -1
	}
	if !slices.Equal(lengths, []int{2, 1, 3, 3, 7, 8, 9}) {
		t.Errorf("the lengths, or their spare room, were changed: %v", lengths)
	}
	if !slices.Equal(places, []int{3, 1, 0, 2, 5, 6, 7}) {
		t.Errorf("the places, or their spare room, were changed: %v", places)
	}
	if !slices.Equal(bytes, []byte{0b00010111, 1, 2, 3}) {
		t.Errorf("the row, or its spare room, was changed: %v", bytes)
	}
	// What was changed in the answers is not told by the next ones.
	wantCodes(t, lengths[:4], []int{2, 0, 6, 7})
	wantWrite(t, lengths[:4], places[:3], row("111010"), api.OK)
	wantRead(t, lengths[:4], bytes[:1], 3, []int{3, 1, 0}, api.OK)
}
