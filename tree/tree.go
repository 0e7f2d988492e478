// Package tree: trees: see doc/02-tree.md.
package tree

import (
	"tetherpost/api"
	"tetherpost/path"
)

// Check a tree.
func Check(t []api.Entry) api.Errno {
	if len(t) > api.MaxEntries {
		return api.ErrMany
	}
	for _, e := range t {
		if err := checkEntry(e); err != api.OK {
			return err
		}
	}
	if !rises(t) {
		return api.ErrState
	}
	return checkParents(t)
}

// Find an entry.
func Find(t []api.Entry, p string) (api.Entry, api.Errno) {
	if err := Check(t); err != api.OK {
		return api.Entry{}, err
	}
	if err := path.Check(p); err != api.OK {
		return api.Entry{}, err
	}
	e, there := first(t, at(p))
	if !there {
		return api.Entry{}, api.ErrNone
	}
	return e, api.OK
}

// List a folder.
func List(t []api.Entry, p string) ([]string, api.Errno) {
	if err := Check(t); err != api.OK {
		return nil, err
	}
	if p != "" {
		if err := path.Check(p); err != api.OK {
			return nil, err
		}
	}
	if err := checkFolder(t, p); err != api.OK {
		return nil, err
	}
	var names []string
	for _, e := range every(t, justIn(p)) {
		name, _ := path.Name(e.Path)
		names = append(names, name)
	}
	return names, api.OK
}

// Size of all texts.
func Size(t []api.Entry) (int, api.Errno) {
	if err := Check(t); err != api.OK {
		return 0, err
	}
	size := 0
	for _, e := range t {
		size += len(e.Text)
	}
	return size, api.OK
}

// Apply a change.
func Apply(t []api.Entry, c api.Change, version int) ([]api.Entry, api.Errno) {
	if err := Check(t); err != api.OK {
		return nil, err
	}
	return apply(t, c, version)
}

// All changes.
func All(t []api.Entry, l []api.Change, version int) ([]api.Entry, int, api.Errno) {
	if err := Check(t); err != api.OK {
		return nil, 0, err
	}
	if len(l) > api.MaxChanges {
		return nil, 0, api.ErrMany
	}
	out := every(t, func(api.Entry) bool { return true })
	for made, c := range l {
		var err api.Errno
		if out, err = apply(out, c, version); err != api.OK {
			return nil, made, err
		}
	}
	return out, len(l), api.OK
}
