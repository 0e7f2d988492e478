package tree

import (
	"slices"
	"strings"

	"tetherpost/api"
	"tetherpost/path"
)

// apply a change to a tree that passed Check: what comes of it passes, too, so that many changes need one Check.
func apply(t []api.Entry, c api.Change, version int) ([]api.Entry, api.Errno) {
	if err := checkVersion(version); err != api.OK {
		return nil, err
	}
	if err := checkChange(c); err != api.OK {
		return nil, err
	}
	if err := checkPlace(t, c); err != api.OK {
		return nil, err
	}
	if isStale(t, c) {
		return nil, api.ErrStale
	}
	return changed(t, c, version)
}

// checkChange tells what is wrong with a change in whatever tree.
func checkChange(c api.Change) api.Errno {
	if c.Kind < api.ChangeFolder || c.Kind > api.ChangeDelete {
		return api.ErrKind
	}
	if err := path.Check(c.Path); err != api.OK {
		return err
	}
	if c.Kind == api.ChangeMove {
		if err := path.Check(c.To); err != api.OK {
			return err
		}
	}
	switch {
	case c.Kind != api.ChangeMove && c.To != "":
		return api.ErrForm
	case c.Kind != api.ChangeWrite && c.Text != "":
		return api.ErrForm
	case len(c.Text) > api.MaxFile:
		return api.ErrMany
	case c.Base < api.Any || c.Base > api.MaxVersion:
		return api.ErrRange
	}
	return api.OK
}

// checkPlace tells what in a tree stands against a change.
func checkPlace(t []api.Entry, c api.Change) api.Errno {
	parent, _ := path.Parent(c.Path)
	if c.Kind == api.ChangeMove {
		parent, _ = path.Parent(c.To)
	}
	if err := checkFolder(t, parent); err != api.OK {
		return err
	}
	e, there := first(t, at(c.Path))
	switch {
	case c.Kind == api.ChangeFolder && there:
		return api.ErrTwice
	case c.Kind == api.ChangeWrite && e.Folder:
		return api.ErrState
	case c.Kind == api.ChangeDelete && !there:
		return api.ErrNone
	case c.Kind == api.ChangeMove && !there:
		return api.ErrNone
	case c.Kind == api.ChangeMove:
		return checkTo(t, c)
	}
	return api.OK
}

func checkTo(t []api.Entry, c api.Change) api.Errno {
	if in, _ := path.Within(c.To, c.Path); in {
		return api.ErrRange
	}
	if _, taken := first(t, at(c.To)); taken {
		return api.ErrTwice
	}
	return api.OK
}

// isStale: was something changed that the change's base does not know?
func isStale(t []api.Entry, c api.Change) bool {
	if c.Base == api.Any {
		return false
	}
	in := within(c.Path)
	_, stale := first(t, func(e api.Entry) bool { return e.Version > c.Base && in(e) })
	return stale
}

func changed(t []api.Entry, c api.Change, version int) ([]api.Entry, api.Errno) {
	switch c.Kind {
	case api.ChangeFolder:
		return put(t, api.Entry{Path: c.Path, Folder: true, Version: version})
	case api.ChangeWrite:
		return put(t, api.Entry{Path: c.Path, Text: c.Text, Version: version})
	case api.ChangeMove:
		return move(t, c, version)
	}
	return every(t, not(within(c.Path))), api.OK
}

// put an entry, in the place of one at its path.
func put(t []api.Entry, e api.Entry) ([]api.Entry, api.Errno) {
	out := append(every(t, not(at(e.Path))), e)
	if len(out) > api.MaxEntries {
		return nil, api.ErrMany
	}
	sortPaths(out)
	return out, api.OK
}

func move(t []api.Entry, c api.Change, version int) ([]api.Entry, api.Errno) {
	out := every(t, not(within(c.Path)))
	for _, e := range every(t, within(c.Path)) {
		to, err := path.Moved(e.Path, c.Path, c.To)
		if err != api.OK {
			return nil, err
		}
		if e.Path == c.Path {
			e.Version = version
		}
		e.Path = to
		out = append(out, e)
	}
	sortPaths(out)
	return out, api.OK
}

func sortPaths(t []api.Entry) {
	slices.SortFunc(t, func(a, b api.Entry) int { return strings.Compare(a.Path, b.Path) })
}
