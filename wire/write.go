package wire

import (
	"strconv"
	"strings"

	"tetherpost/api"
)

// maxText is how many bytes a text may have.
const maxText = 1000

// writer of one text. It notes what may not be written and goes on, as the error of what comes later may be the one to tell.
type writer struct {
	strings.Builder
	many, far bool
}

// written is all of it, if all of it may be.
func (w *writer) written() (string, api.Errno) {
	if w.many {
		return "", api.ErrMany
	}
	if w.far {
		return "", api.ErrRange
	}
	return w.String(), api.OK
}

func (w *writer) number(n int) {
	if !isNear(n) {
		w.far = true
	}
	w.WriteString(strconv.Itoa(n))
	w.WriteByte(';')
}

// count of the bytes of a text, or of the things of a list: whether these may be written, too.
func (w *writer) count(n, most int) bool {
	if n > most {
		w.many = true
		return false
	}
	w.number(n)
	return true
}

func (w *writer) text(s string) {
	if w.count(len(s), maxText) {
		w.WriteString(s)
	}
}

func (w *writer) yes(is bool) {
	if is {
		w.number(1)
	} else {
		w.number(0)
	}
}

func (w *writer) numbers(l ...int) {
	for _, n := range l {
		w.number(n)
	}
}

func (w *writer) texts(l ...string) {
	for _, s := range l {
		w.text(s)
	}
}

func writeList[T any](w *writer, l []T, most int, one func(T)) {
	if !w.count(len(l), most) {
		return
	}
	for _, x := range l {
		one(x)
	}
}

func (w *writer) changes(l []api.Change) {
	writeList(w, l, api.MaxChanges, func(c api.Change) {
		w.number(c.Kind)
		w.texts(c.Path, c.To, c.Text)
		w.number(c.Base)
	})
}

func (w *writer) page(p api.Page) {
	w.yes(p.Reset)
	writeList(w, p.Tree, api.MaxEntries, func(e api.Entry) {
		w.text(e.Path)
		w.yes(e.Folder)
		w.text(e.Text)
		w.number(e.Version)
	})
	writeList(w, p.Commits, api.MaxPage, func(c api.Commit) {
		w.number(c.Number)
		w.text(c.Key)
		w.changes(c.Changes)
	})
	w.number(p.Cursor)
	w.yes(p.More)
}

// isNear: may a number stand in a text?
func isNear(n int) bool { return -api.MaxTime <= n && n <= api.MaxTime }
