package world

import (
	"slices"

	"reliquary/api"
	"reliquary/merge"
	"reliquary/name"
)

// change makes the next world of one that nobody else has. All that could be wrong was looked for when it was made: so
// a happening with an error has none, and nothing is half done.
type change func(next api.World) api.World

// changeBy answers what a happening does to a world.
func changeBy(w api.World, x api.Happening) (change, api.Errno) {
	switch x.Kind {
	case api.Put, api.Take:
		return changeFile(w, x)
	case api.Send:
		return send(w, x)
	case api.Arrive, api.Lose, api.Double:
		return changeNet(w, x)
	}
	return nil, api.ErrRange
}

// changeFile answers what it does that a node puts a file, or takes one away.
func changeFile(w api.World, x api.Happening) (change, api.Errno) {
	if !isPlace(x.Node, len(w.Nodes)) {
		return nil, api.ErrWho
	}
	if e := name.Check(x.Name); e != api.OK {
		return nil, e
	}
	files, clock := w.Nodes[x.Node], w.Clock[x.Node]
	if clock == api.MaxStamp {
		return nil, api.ErrFull
	}
	f := api.File{Name: x.Name, Bytes: x.Bytes, Stamp: clock + 1, Node: x.Node}
	if x.Kind == api.Take {
		isIt := func(old api.File) bool { return old.Name == x.Name && !old.Gone }
		if !slices.ContainsFunc(files, isIt) {
			return nil, api.ErrWho
		}
		f.Bytes, f.Gone = nil, true
	}
	// It tells of too many Bytes, too, and of these first.
	files, e := merge.Put(files, f)
	if e != api.OK {
		return nil, e
	}
	return keep(x.Node, files), api.OK
}

// send answers what it does that a node sends all it has.
func send(w api.World, x api.Happening) (change, api.Errno) {
	if !isPlace(x.Node, len(w.Nodes)) || !isPlace(x.To, len(w.Nodes)) {
		return nil, api.ErrWho
	}
	return pass(w, api.Message{To: x.To, Files: w.Nodes[x.Node]})
}

// changeNet answers what it does that a message comes, is lost, or is there twice.
func changeNet(w api.World, x api.Happening) (change, api.Errno) {
	if !isPlace(x.To, len(w.Net)) {
		return nil, api.ErrWho
	}
	m := w.Net[x.To]
	switch x.Kind {
	case api.Lose:
		return drop(x.To), api.OK
	case api.Double:
		return pass(w, m)
	}
	files, e := merge.Both(w.Nodes[m.To], m.Files)
	if e != api.OK {
		return nil, e
	}
	learn, forget := keep(m.To, files), drop(x.To)
	return func(next api.World) api.World { return forget(learn(next)) }, api.OK
}

// keep gives a node these files in place of its own. The newest of them may be one of its own that it has just put: its
// clock goes on with it.
func keep(node int, files []api.File) change {
	return func(next api.World) api.World {
		next.Nodes[node] = files
		next.Clock[node] = raised(next.Clock[node], files)
		return next
	}
}

// pass sets a message behind the others, if there is room for one.
func pass(w api.World, m api.Message) (change, api.Errno) {
	if len(w.Net) >= api.MaxNet {
		return nil, api.ErrFull
	}
	return func(next api.World) api.World {
		next.Net = append(next.Net, copyOfMessage(m))
		return next
	}, api.OK
}

// drop takes a message away.
func drop(place int) change {
	return func(next api.World) api.World {
		next.Net = slices.Delete(next.Net, place, place+1)
		return next
	}
}

// raised answers a clock that is no less than any Stamp of the files.
func raised(clock int, files []api.File) int {
	for _, f := range files {
		clock = max(clock, f.Stamp)
	}
	return clock
}

// isPlace answers whether there is such a place among so many.
func isPlace(place, many int) bool {
	return 0 <= place && place < many
}
