// Package path: paths: see doc/01-path.md.
package path

import (
	"strconv"
	"strings"

	"tetherpost/api"
)

const slash = "/"

// Check a path.
func Check(p string) api.Errno {
	deep := 0
	for rest, more := p, true; more; deep++ {
		var name string
		name, rest, more = strings.Cut(rest, slash)
		if !isName(name) {
			return api.ErrForm
		}
	}
	if deep > api.MaxDeep || len(p) > api.MaxPath {
		return api.ErrMany
	}
	return api.OK
}

// Parent of a path.
func Parent(p string) (string, api.Errno) {
	if err := checkAll(p); err != api.OK {
		return "", err
	}
	parent, _ := split(p)
	return parent, api.OK
}

// Name of a path.
func Name(p string) (string, api.Errno) {
	if err := checkAll(p); err != api.OK {
		return "", err
	}
	_, name := split(p)
	return name, api.OK
}

// Join a name.
func Join(p, name string) (string, api.Errno) {
	if p != "" {
		if err := checkAll(p); err != api.OK {
			return "", err
		}
	}
	if !isName(name) {
		return "", api.ErrForm
	}
	return checked(joined(p, name))
}

// Within another one?
func Within(p, q string) (bool, api.Errno) {
	if err := checkAll(p, q); err != api.OK {
		return false, err
	}
	return within(p, q), api.OK
}

// Moved path.
func Moved(p, from, to string) (string, api.Errno) {
	if err := checkAll(p, from, to); err != api.OK {
		return "", err
	}
	if !within(p, from) {
		return "", api.ErrNone
	}
	return checked(to + p[len(from):])
}

// Aside of a path.
func Aside(p string, n int) (string, api.Errno) {
	if err := checkAll(p); err != api.OK {
		return "", err
	}
	if n < 1 || n > 99 {
		return "", api.ErrRange
	}
	parent, name := split(p)
	stem, ending := parts(name)
	mark := " (" + strconv.Itoa(n) + ")"
	stem = shortened(stem, api.MaxName-len(mark)-len(ending))
	if stem == "" {
		return "", api.ErrMany
	}
	return checked(joined(parent, stem+mark+ending))
}

// checkAll tells the first error of some paths, in their order.
func checkAll(paths ...string) api.Errno {
	for _, p := range paths {
		if err := Check(p); err != api.OK {
			return err
		}
	}
	return api.OK
}

// checked is a path, unless Check has an error of it.
func checked(p string) (string, api.Errno) {
	if err := Check(p); err != api.OK {
		return "", err
	}
	return p, api.OK
}

func isName(s string) bool {
	if len(s) < 1 || len(s) > api.MaxName || s == "." || s == ".." {
		return false
	}
	if s[0] == ' ' || s[len(s)-1] == ' ' {
		return false
	}
	for i := range len(s) {
		if !inNames(s[i]) {
			return false
		}
	}
	return true
}

// inNames: may a byte stand in a name?
func inNames(b byte) bool {
	switch {
	case 'a' <= b && b <= 'z', 'A' <= b && b <= 'Z', '0' <= b && b <= '9':
		return true
	}
	return strings.IndexByte("-_.() ", b) >= 0
}

func split(p string) (parent, name string) {
	i := strings.LastIndex(p, slash)
	return p[:max(i, 0)], p[i+1:]
}

func joined(p, name string) string {
	if p == "" {
		return name
	}
	return p + slash + name
}

func within(p, q string) bool {
	return p == q || strings.HasPrefix(p, q+slash)
}

// parts of a name: the ending begins at the last dot; a dot that is the first byte begins none, so that the stem is never empty.
func parts(name string) (stem, ending string) {
	i := strings.LastIndex(name, ".")
	if i <= 0 {
		return name, ""
	}
	return name[:i], name[i:]
}

// shortened keeps blanks at the end of a stem that has room: they were there before.
func shortened(stem string, room int) string {
	if len(stem) <= room {
		return stem
	}
	return strings.TrimRight(stem[:max(room, 0)], " ")
}
