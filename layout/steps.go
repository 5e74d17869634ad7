package layout

import "reliquary/api"

// Numbers stand on steps, which come in groups: there are two groups of steps with one number each, then each group's
// steps are twice as wide as those ahead.
const (
	sameGroup = 4
	farGroup  = 2
)

// Same answers the symbol that tells how many bytes are the same, and the rest, with its size in bits.
func Same(same int) (symbol, rest, size int) {
	if same == api.MaxSame {
		return LastSame, 0, 0
	}
	step, rest, size := stepOf(same-api.MinSame, sameGroup)
	return FirstSame + step, rest, size
}

// Far answers the symbol that tells how far the bytes stand ahead, and the rest, with its size in bits.
func Far(far int) (symbol, rest, size int) { return stepOf(far-1, farGroup) }

// LeastSame answers how many bytes are the same by this symbol if the rest is 0, and the size of the rest.
func LeastSame(symbol int) (least, size int) {
	if symbol == LastSame {
		return api.MaxSame, 0
	}
	least, size = firstOf(symbol-FirstSame, sameGroup)
	return api.MinSame + least, size
}

// LeastFar answers how far the bytes stand ahead by this symbol if the rest is 0, and the size of the rest.
func LeastFar(symbol int) (least, size int) {
	least, size = firstOf(symbol, farGroup)
	return 1 + least, size
}

// stepOf tells on which step n (from 0 on) stands, how far behind the step's first number, and in how many bits that
// is told. A step's group shows in how often n halves till it is one of the second group.
func stepOf(n, group int) (step, rest, size int) {
	for n>>size >= 2*group {
		size++
	}
	return group*size + n>>size, n & (1<<size - 1), size
}

// firstOf answers the first number of a step, and in how many bits it is told how far behind that one another stands.
func firstOf(step, group int) (first, size int) {
	size = max(step/group-1, 0)
	return (step - group*size) << size, size
}
