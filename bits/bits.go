// Package bits: rows of bits in bytes; see doc/01-bits.md.
package bits

import "reliquary/api"

// maxSize: the most bits that one number has.
const maxSize = 16

// Pack lays numbers (each with its size in bits) one behind the other.
func Pack(l [][2]int) ([]byte, api.Errno) {
	if len(l) > api.MaxBytes {
		return nil, api.ErrMany
	}
	total := 0
	for _, p := range l {
		if !fits(p[0], p[1]) {
			return nil, api.ErrRange
		}
		total += p[1]
	}
	row := make([]byte, (total+7)/8)
	at := 0
	for _, p := range l {
		put(row, at, p[0], p[1])
		at += p[1]
	}
	return row, api.OK
}

// Unpack takes numbers of these sizes from the beginning of a row.
func Unpack(b []byte, sizes []int) ([]int, api.Errno) {
	if len(b) > api.MaxPacked || len(sizes) > api.MaxBytes {
		return nil, api.ErrMany
	}
	// All sizes are looked at ahead of the first bit: a wrong one is told even where the row ends sooner.
	total := 0
	for _, size := range sizes {
		if !isSize(size) {
			return nil, api.ErrRange
		}
		total += size
	}
	if total > 8*len(b) {
		return nil, api.ErrTorn
	}
	numbers := make([]int, len(sizes))
	at := 0
	for i, size := range sizes {
		numbers[i] = take(b, at, size)
		at += size
	}
	return numbers, api.OK
}

// Turn answers the number of as many bits whose bits stand the other way round.
func Turn(n, size int) (int, api.Errno) {
	if !fits(n, size) {
		return 0, api.ErrRange
	}
	turned := 0
	for i := range size {
		turned = turned<<1 | n>>i&1
	}
	return turned, api.OK
}

// isSize: may a number have so many bits?
func isSize(size int) bool { return 0 <= size && size <= maxSize }

// fits: is n a number of so many bits? The size is asked first, as a shift by less than 0 panics.
func fits(n, size int) bool { return isSize(size) && 0 <= n && n < 1<<size }

// put lays n into a row whose bits from at on are still 0.
func put(row []byte, at, n, size int) {
	for i := range size {
		k := at + i
		row[k/8] |= byte(n>>i&1) << (k % 8)
	}
}

// take reads the number of so many bits that stands in a row from bit at on.
func take(row []byte, at, size int) int {
	n := 0
	for i := range size {
		k := at + i
		n |= int(row[k/8]>>(k%8)&1) << i
	}
	return n
}
