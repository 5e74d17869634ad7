package match

import "reliquary/api"

// start is as many bytes as two places must have the same for one to be of use to the other.
type start [api.MinSame]byte

// past knows of each start where it stood, up to a place. It is asked of places from the left to the right.
type past struct {
	bytes  []byte
	places map[start][]int
	known  int // places ahead of this one have been entered
}

func newPast(b []byte) *past {
	return &past{bytes: b, places: map[start][]int{}}
}

// token answers the token of place k.
func (p *past) token(k int) api.Token {
	n, far := p.longest(k)
	if n == 0 {
		return api.Token{Byte: p.bytes[k]}
	}
	// Where so many bytes follow k, there is a next place.
	if next, _ := p.longest(k + 1); next > n {
		return api.Token{Byte: p.bytes[k]}
	}
	return api.Token{Same: n, Far: far}
}

// longest answers what Longest does, of a place that there is.
func (p *past) longest(k int) (n, far int) {
	most := min(api.MaxSame, len(p.bytes)-k)
	if most < api.MinSame {
		return 0, 0
	}
	p.enter(k)
	places := p.places[start(p.bytes[k:])]
	// From the nearest on, so that of those that are as good the nearest stays.
	for i := len(places) - 1; i >= 0 && n < most; i-- {
		if same := p.same(places[i], k, n, most); same > n {
			n, far = same, k-places[i]
		}
	}
	return n, far
}

// enter makes the places ahead of k known: each has a whole start, as k has one.
func (p *past) enter(k int) {
	for ; p.known < k; p.known++ {
		s := start(p.bytes[p.known:])
		p.places[s] = append(p.places[s], p.known)
	}
}

// same answers how many bytes from the places i and k on are the same, up to most; it may answer 0 where these are not
// more than n.
func (p *past) same(i, k, n, most int) int {
	// What differs here is no better: most places are passed over by this one byte.
	if p.bytes[i+n] != p.bytes[k+n] {
		return 0
	}
	same := 0
	for same < most && p.bytes[i+same] == p.bytes[k+same] {
		same++
	}
	return same
}
