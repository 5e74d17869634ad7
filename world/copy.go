package world

import "reliquary/api"

// copyOf answers a world whose lists nobody else has.
func copyOf(w api.World) api.World {
	var out api.World
	for _, files := range w.Nodes {
		out.Nodes = append(out.Nodes, copyOfFiles(files))
	}
	for _, m := range w.Net {
		out.Net = append(out.Net, copyOfMessage(m))
	}
	out.Clock = append(out.Clock, w.Clock...)
	return out
}

// copyOfMessage answers a message whose files nobody else has.
func copyOfMessage(m api.Message) api.Message {
	return api.Message{To: m.To, Files: copyOfFiles(m.Files)}
}

// copyOfFiles answers files whose lists nobody else has.
func copyOfFiles(l []api.File) []api.File {
	var out []api.File
	for _, f := range l {
		f.Bytes = append([]byte(nil), f.Bytes...)
		out = append(out, f)
	}
	return out
}
