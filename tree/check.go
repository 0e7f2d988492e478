package tree

import (
	"tetherpost/api"
	"tetherpost/path"
)

func checkEntry(e api.Entry) api.Errno {
	if err := path.Check(e.Path); err != api.OK {
		return err
	}
	switch {
	case e.Folder && e.Text != "":
		return api.ErrForm
	case len(e.Text) > api.MaxFile:
		return api.ErrMany
	}
	return checkVersion(e.Version)
}

func checkVersion(version int) api.Errno {
	if version < 1 || version > api.MaxVersion {
		return api.ErrRange
	}
	return api.OK
}

// rises: do the paths?
func rises(t []api.Entry) bool {
	for i := 1; i < len(t); i++ {
		if t[i-1].Path >= t[i].Path {
			return false
		}
	}
	return true
}

// checkParents goes on behind a parent that is no folder: one that is not there, further on, is told ahead of it.
func checkParents(t []api.Entry) api.Errno {
	told := api.OK
	for _, e := range t {
		parent, _ := path.Parent(e.Path)
		switch checkFolder(t, parent) {
		case api.ErrNone:
			return api.ErrNone
		case api.ErrState:
			told = api.ErrState
		}
	}
	return told
}

// checkFolder: is there a folder at a path? The empty path is where those are that have no parent, and is always there.
func checkFolder(t []api.Entry, p string) api.Errno {
	if p == "" {
		return api.OK
	}
	e, there := first(t, at(p))
	switch {
	case !there:
		return api.ErrNone
	case !e.Folder:
		return api.ErrState
	}
	return api.OK
}
