// Package spot: what is at paths, for those that hold trees against each other path by path.
package spot

import (
	"maps"
	"slices"

	"tetherpost/api"
)

// What may be at a path. Nothing is the zero value, so that a map answers it of a path that it does not have.
type What int

// Kinds of what may be at a path.
const (
	Nothing What = iota
	Folder
	File
)

// Spot is what is at a path: only a file has a text.
type Spot struct {
	What    What
	Text    string
	Version int
}

// Spots is what is at paths; one at which nothing is does not lie in it.
type Spots map[string]Spot

// Of a tree that passed Check: so the paths of no two entries are the same.
func Of(t []api.Entry) Spots {
	s := make(Spots, len(t))
	for _, e := range t {
		s[e.Path] = of(e)
	}
	return s
}

// Like another one, whatever the versions?
func (s Spot) Like(o Spot) bool {
	return s.What == o.What && s.Text == o.Text
}

// Paths at which something is, rising.
func (s Spots) Paths() []string {
	return slices.Sorted(maps.Keys(s))
}

func of(e api.Entry) Spot {
	if e.Folder {
		return Spot{What: Folder, Version: e.Version}
	}
	return Spot{What: File, Text: e.Text, Version: e.Version}
}
