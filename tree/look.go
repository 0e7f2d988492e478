package tree

import (
	"tetherpost/api"
	"tetherpost/path"
)

// first entry of which a function holds.
func first(t []api.Entry, holds func(api.Entry) bool) (api.Entry, bool) {
	for _, e := range t {
		if holds(e) {
			return e, true
		}
	}
	return api.Entry{}, false
}

// every entry of which a function holds, in memory of its own, so that it may be changed and handed out.
func every(t []api.Entry, holds func(api.Entry) bool) []api.Entry {
	out := make([]api.Entry, 0, len(t))
	for _, e := range t {
		if holds(e) {
			out = append(out, e)
		}
	}
	return out
}

func at(p string) func(api.Entry) bool {
	return func(e api.Entry) bool { return e.Path == p }
}

func within(p string) func(api.Entry) bool {
	return func(e api.Entry) bool {
		in, _ := path.Within(e.Path, p)
		return in
	}
}

func justIn(p string) func(api.Entry) bool {
	return func(e api.Entry) bool {
		parent, _ := path.Parent(e.Path)
		return parent == p
	}
}

func not(holds func(api.Entry) bool) func(api.Entry) bool {
	return func(e api.Entry) bool { return !holds(e) }
}
