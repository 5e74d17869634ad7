package sum_test

import (
	"slices"
	"testing"

	"reliquary/api"
	"reliquary/sum"
)

// turn: a row with those of the bits from at on turned that a pattern has (its lowest bit for the first of them).
func turn(b []byte, at int, pattern uint64) []byte {
	other := slices.Clone(b)
	for i := 0; pattern>>i != 0; i++ {
		k := at + i
		other[k/8] ^= byte(pattern>>i&1) << (k % 8)
	}
	return other
}

// wantOther: is the CRC of a row another one, with these bits turned?
func wantOther(t *testing.T, b []byte, at int, pattern uint64) {
	t.Helper()
	if crc(t, turn(b, at, pattern)) == crc(t, b) {
		t.Fatalf("the bits %b, turned from bit %d of %d bytes on, leave the CRC as it was", pattern, at, len(b))
	}
}

func TestNoRunOfTurnedBitsLeavesACRC(t *testing.T) {
	for _, many := range []int{1, 2, 3, 4, 5, 8, 9, 20} {
		for _, b := range [][]byte{make([]byte, many), slices.Repeat([]byte{255}, many), sample(many, 21)} {
			for at := range 8 * many {
				for long := 1; long <= min(32, 8*many-at); long++ {
					wantOther(t, b, at, 1<<long-1)
				}
			}
		}
	}
}

func TestNoRunOfTurnedBitsLeavesALongRowsCRC(t *testing.T) {
	b := sample(api.MaxArchive, 22)
	for _, at := range []int{0, 1, 7, 8, 4001, 8*api.MaxArchive - 33, 8*api.MaxArchive - 32} {
		for long := 1; long <= 32; long++ {
			wantOther(t, b, at, 1<<long-1)
		}
	}
}

func TestNoPatternOfTurnedBitsLeavesACRC(t *testing.T) {
	b := sample(6, 23)
	for at := range 9 {
		for pattern := uint64(1); pattern < 1<<12; pattern++ {
			wantOther(t, b, at, pattern)
			wantOther(t, b, at, pattern<<20)
			wantOther(t, b, at, pattern|1<<31)
		}
	}
}

// What one turned bit does to a CRC hangs on its place alone, and what several do is all of theirs together.
func TestTurnedBitsAddUp(t *testing.T) {
	for round := range 200 {
		pattern := uint64(round)*0x9E3779B9 + 12345
		b, zeros := sample(8, uint32(round)), make([]byte, 8)
		at := round % 16
		want := uint32(0)
		for i := range 48 {
			if pattern>>i&1 == 1 {
				want ^= crc(t, turn(zeros, at+i, 1)) ^ crc(t, zeros)
			}
		}
		if got := crc(t, turn(b, at, pattern%(1<<48))) ^ crc(t, b); got != want {
			t.Fatalf("the bits %b from bit %d on: %08X, want %08X", pattern, at, got, want)
		}
	}
}

// independent: can no choice of these numbers, exclusive or, be 0?
func independent(l []uint32) bool {
	var byHighest [32]uint32
	for _, n := range l {
		for i := 31; i >= 0; i-- {
			if n>>i&1 == 0 {
				continue
			}
			if byHighest[i] == 0 {
				byHighest[i] = n
				break
			}
			n ^= byHighest[i]
		}
		if n == 0 {
			return false
		}
	}
	return true
}

// As turned bits add up, all patterns of 32 bits are tried where no choice of the single ones comes to nothing.
func TestNoPatternAtAllLeavesACRC(t *testing.T) {
	for _, many := range []int{4, 5, 6, 40} {
		b := sample(many, 24)
		whole := crc(t, b)
		var single []uint32
		for i := range 8 * many {
			single = append(single, crc(t, turn(b, i, 1))^whole)
		}
		for at := range 8*many - 31 {
			if !independent(single[at : at+32]) {
				t.Fatalf("%d bytes: some of the 32 bits from bit %d on, turned, leave the CRC as it was", many, at)
			}
		}
	}
}

// The next greater row of bits can: the polynomial's own 33.
func TestThePolynomialsBitsLeaveACRC(t *testing.T) {
	b := sample(10, 25)
	for at := range 8*len(b) - 32 {
		// From the highest power down: 1, then 04C11DB7, whose bits the other way round are EDB88320.
		if got := crc(t, turn(b, at, 0xEDB88320<<1|1)); got != crc(t, b) {
			t.Fatalf("the polynomial from bit %d on: %08X, want %08X", at, got, crc(t, b))
		}
	}
}

func TestNoTurnedBitsLeaveACRCBehindOthers(t *testing.T) {
	b := sample(5, 26)
	for _, before := range numbers() {
		was, _ := sum.CRC(before, b)
		for at := range 40 {
			for long := 1; long <= min(32, 40-at); long++ {
				if is, _ := sum.CRC(before, turn(b, at, 1<<long-1)); is == was {
					t.Fatalf("%d bits, turned from bit %d on, leave the CRC behind %08X as it was", long, at, before)
				}
			}
		}
		// Bits of the number that stands for those ahead are told, too.
		for i := range 32 {
			if is, _ := sum.CRC(before^1<<i, b); is == was {
				t.Fatalf("bit %d of %08X, turned, leaves the CRC as it was", i, before)
			}
		}
	}
}
