package inflate

import (
	"reliquary/api"
	"reliquary/layout"
)

// fixedCodes answers the codes that need not be told. They are made once: thousands of blocks may want them.
func (r *reader) fixedCodes() codes {
	if r.fixed.symbol == nil {
		symbols, fars := layout.FixedLengths()
		r.fixed = codes{r.decoder(symbols[:]), r.decoder(fars[:])}
	}
	return r.fixed
}

// ownCodes reads the codes that a block tells.
func (r *reader) ownCodes() codes {
	symbols := layout.LeastSymbols + r.number(5)
	fars := layout.LeastFars + r.number(5)
	own := layout.LeastOwn + r.number(4)
	if symbols > layout.LastSame+1 || fars > layout.ManyFars {
		giveUp(api.ErrCode)
	}
	l := r.lengths(r.codeOfLengths(own), symbols+fars)
	if l[layout.End] == 0 {
		giveUp(api.ErrCode)
	}
	return codes{r.decoder(l[:symbols]), r.decoder(l[symbols:])}
}

// codeOfLengths reads so many lengths of the code by which all others are told.
func (r *reader) codeOfLengths(many int) func() int {
	var own [layout.ManyOwn]int
	order := layout.Order()
	for i := range many {
		own[order[i]] = r.number(3)
	}
	return r.decoder(own[:])
}

// lengths reads so many lengths. They go on from those of symbols to those of how far, so that one that is told
// several times may do so, too.
func (r *reader) lengths(next func() int, many int) []int {
	var l []int
	for len(l) < many {
		length, times := r.run(next(), l)
		if len(l)+times > many {
			giveUp(api.ErrCode)
		}
		for range times {
			l = append(l, length)
		}
	}
	return l
}

// run answers which length a symbol of the code of lengths tells, and how many times, behind those ahead.
func (r *reader) run(symbol int, ahead []int) (length, times int) {
	switch symbol {
	case layout.Again:
		if len(ahead) == 0 {
			giveUp(api.ErrCode)
		}
		return ahead[len(ahead)-1], r.withRest(3, 2)
	case layout.Zeros:
		return 0, r.withRest(3, 3)
	case layout.ManyZeros:
		return 0, r.withRest(11, 7)
	}
	return symbol, 1
}
