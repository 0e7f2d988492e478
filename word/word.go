// Package word: names of who shares, and of what is shared (doc/06-grant.md), and keys by which somebody asks (doc/05-journal.md).
package word

import (
	"tetherpost/api"
	"tetherpost/path"
)

// Names: ErrForm, if one of some texts is no name. (A name alone is a path that is joined to nothing.)
func Names(l ...string) api.Errno {
	for _, s := range l {
		if _, err := path.Join("", s); err != api.OK {
			return api.ErrForm
		}
	}
	return api.OK
}

// Key: ErrForm, if a text is none.
func Key(s string) api.Errno {
	if len(s) < 1 || len(s) > api.MaxKey {
		return api.ErrForm
	}
	for i := range len(s) {
		if !inKeys(s[i]) {
			return api.ErrForm
		}
	}
	return api.OK
}

// inKeys: may a byte stand in a key?
func inKeys(b byte) bool {
	switch {
	case 'a' <= b && b <= 'z', 'A' <= b && b <= 'Z', '0' <= b && b <= '9':
		return true
	}
	return b == '-'
}
