package wire

import (
	"strconv"
	"strings"

	"tetherpost/api"
)

// reader of one text: what is not read yet. It gives up by a panic at whatever is wrong, so that who reads need not ask after each number.
type reader struct{ rest string }

// read a whole text as one thing.
func read[T any](s string, thing func(*reader) T) (out T, err api.Errno) {
	defer func() {
		if wrong, is := recover().(api.Errno); is {
			err = wrong
		}
	}()
	r := &reader{rest: s}
	t := thing(r)
	if r.rest != "" {
		giveUp()
	}
	return t, api.OK
}

func giveUp() { panic(api.ErrForm) }

// number, just as the writer would have written it: that rules out noughts ahead, and all signs that need not be there.
func (r *reader) number() int {
	digits, rest, found := strings.Cut(r.rest, ";")
	n, err := strconv.Atoi(digits)
	if !found || err != nil || strconv.Itoa(n) != digits || !isNear(n) {
		giveUp()
	}
	r.rest = rest
	return n
}

func (r *reader) count(most int) int {
	n := r.number()
	if n < 0 || n > most {
		giveUp()
	}
	return n
}

func (r *reader) text() string {
	n := r.count(maxText)
	if n > len(r.rest) {
		giveUp()
	}
	s := r.rest[:n]
	r.rest = r.rest[n:]
	return s
}

func (r *reader) yes() bool { return r.count(1) == 1 }

func readList[T any](r *reader, most int, one func() T) []T {
	var l []T
	for range r.count(most) {
		l = append(l, one())
	}
	return l
}

func (r *reader) changes() []api.Change {
	return readList(r, api.MaxChanges, func() api.Change {
		var c api.Change
		c.Kind = r.number()
		c.Path, c.To, c.Text = r.text(), r.text(), r.text()
		c.Base = r.number()
		return c
	})
}

func (r *reader) page() api.Page {
	var p api.Page
	p.Reset = r.yes()
	p.Tree = readList(r, api.MaxEntries, func() api.Entry {
		var e api.Entry
		e.Path = r.text()
		e.Folder = r.yes()
		e.Text = r.text()
		e.Version = r.number()
		return e
	})
	p.Commits = readList(r, api.MaxPage, func() api.Commit {
		var c api.Commit
		c.Number = r.number()
		c.Key = r.text()
		c.Changes = r.changes()
		return c
	})
	p.Cursor = r.number()
	p.More = r.yes()
	return p
}
