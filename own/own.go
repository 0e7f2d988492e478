// Package own: copies of what has lists in lists, in memory of their own, so that who changes the one does not change the other.
package own

import (
	"slices"

	"tetherpost/api"
)

// Commits with their changes.
func Commits(l []api.Commit) []api.Commit {
	out := slices.Clone(l)
	for i := range out {
		out[i].Changes = slices.Clone(out[i].Changes)
	}
	return out
}

// Journal with all in it.
func Journal(j api.Journal) api.Journal {
	j.Base = slices.Clone(j.Base)
	j.Commits = Commits(j.Commits)
	return j
}

// Hub with all in it.
func Hub(h api.Hub) api.Hub {
	h.Folders = slices.Clone(h.Folders)
	for i := range h.Folders {
		h.Folders[i].Journal = Journal(h.Folders[i].Journal)
	}
	h.Grants = slices.Clone(h.Grants)
	h.Uploads.Sessions = slices.Clone(h.Uploads.Sessions)
	return h
}

// Client with all in it.
func Client(c api.Client) api.Client {
	c.Base = slices.Clone(c.Base)
	c.Mine = slices.Clone(c.Mine)
	c.Asked = slices.Clone(c.Asked)
	return c
}

// World with all in it.
func World(w api.World) api.World {
	w.Hub = Hub(w.Hub)
	w.Clients = slices.Clone(w.Clients)
	for i := range w.Clients {
		w.Clients[i] = Client(w.Clients[i])
	}
	w.Letters = slices.Clone(w.Letters)
	return w
}
