package hub_test

import (
	"fmt"
	"slices"
	"strings"
	"testing"

	"tetherpost/api"
	"tetherpost/brief"
	"tetherpost/hub"
	"tetherpost/wire"
)

// served: what a hub is asked, what it answers, and what changes in it (nil: nothing).
type served struct {
	name   string
	h      api.Hub
	r      api.Request
	a      api.Answer
	change func(*api.Hub)
}

// test a request three times: as it is, with all else in it that its kind does not name, and as a text.
func (x served) test(t *testing.T) {
	t.Helper()
	then := x.h
	if x.change != nil {
		then = clone(x.h)
		x.change(&then)
	}
	if hub.Check(x.h) != api.OK || hub.Check(then) != api.OK {
		t.Fatalf("%s: no hub", x.name)
	}
	h, a, err := hub.Serve(x.h, x.r)
	want(t, x.name, shown(h, a, err), shown(then, x.a, api.OK))
	h, a, err = hub.Serve(x.h, littered(x.r))
	want(t, x.name+", littered", shown(h, a, err), shown(then, x.a, api.OK))
	s, err := wire.Ask(x.r)
	if err != api.OK {
		return
	}
	h, s, err = hub.Text(x.h, s)
	told, toldErr := wire.Tell(x.a)
	want(t, x.name+", as a text", shown(h, s, err, toldErr), shown(then, told, api.OK, api.OK))
}

// clone what a change may write to.
func clone(h api.Hub) api.Hub {
	h.Folders, h.Grants = slices.Clone(h.Folders), slices.Clone(h.Grants)
	h.Uploads.Sessions = slices.Clone(h.Uploads.Sessions)
	for i := range h.Folders {
		h.Folders[i].Journal.Commits = slices.Clone(h.Folders[i].Journal.Commits)
	}
	return h
}

// littered: a request with something else in each field that its kind does not name.
func littered(r api.Request) api.Request {
	out := api.Request{Kind: r.Kind, Who: r.Who, Folder: "?", Name: "/", Key: "??", Text: strings.Repeat("t", 1001), Number: -7, Offset: -9, Base: -99, Changes: make([]api.Change, 21)}
	switch r.Kind {
	case api.AskMake:
		out.Folder = r.Folder
	case api.AskGrant:
		out.Folder, out.Name, out.Number = r.Folder, r.Name, r.Number
	case api.AskCommit:
		out.Folder, out.Key, out.Changes = r.Folder, r.Key, r.Changes
	case api.AskPage:
		out.Folder, out.Number = r.Folder, r.Number
	case api.AskOpen, api.AskQuery:
		out.Number = r.Number
	case api.AskAppend:
		out.Number, out.Offset, out.Text = r.Number, r.Offset, r.Text
	case api.AskFinish:
		out.Number, out.Folder, out.Name, out.Base, out.Key = r.Number, r.Folder, r.Name, r.Base, r.Key
	}
	return out
}

// refused: nothing changes, and the answer has the error alone.
func refused(name string, h api.Hub, r api.Request, err api.Errno) served {
	return served{name: fmt.Sprintf("%s: %+v", name, r), h: h, r: r, a: api.Answer{Err: err}}
}

// I2: the kind comes first, then who asks, then all else.
func TestI2First(t *testing.T) {
	for _, kind := range []int{0, -1, 9, 10, 1 << 40, -1 << 63, 1<<63 - 1} {
		for _, who := range []string{"a", "", "z"} {
			refused("kind", sample(), api.Request{Kind: kind, Who: who, Folder: "f", Key: "k", Changes: brief.Changes("n=1")}, api.ErrKind).test(t)
		}
	}
	for kind := api.AskCommit; kind <= api.AskMake; kind++ {
		for _, who := range noNames {
			refused("who", sample(), api.Request{Kind: kind, Who: who, Folder: "f", Number: -1}, api.ErrForm).test(t)
			refused("who", folders(8), api.Request{Kind: kind, Who: who, Folder: "n", Number: 2, Key: "k"}, api.ErrForm).test(t)
		}
	}
}

func makes() []served {
	ask := func(who, folder string) api.Request {
		return api.Request{Kind: api.AskMake, Who: who, Folder: folder}
	}
	made := func(i, k int, who, folder string) served {
		return served{name: folder + " is made", h: sample(), r: ask(who, folder), change: func(h *api.Hub) {
			h.Folders = slices.Insert(h.Folders, i, api.Shared{Name: folder, Journal: api.Journal{First: 1}})
			h.Grants = slices.Insert(h.Grants, k, api.Grant{Folder: folder, Who: who, Right: api.RightOwner})
		}}
	}
	out := []served{
		made(0, 0, "z", "a"), made(1, 1, "b", "ee"), made(3, 5, "a", "n"), made(3, 5, long, long), made(0, 0, "a", "E"), made(2, 4, "c", "f (1).x"),
		{name: "the last one", h: folders(7), r: ask("b", "f7"), change: func(h *api.Hub) {
			*h = with(folders(8), func(h *api.Hub) { h.Grants[7].Who = "b" })
		}},
		refused("twice", sample(), ask("a", "f"), api.ErrTwice), refused("twice", sample(), ask("z", "f"), api.ErrTwice), refused("twice", folders(8), ask("b", "f7"), api.ErrTwice),
		refused("folders", folders(8), ask("a", "n"), api.ErrMany), refused("folders", folders(8), ask("z", "a"), api.ErrMany),
		refused("grants", with(folders(1), fillGrants), ask("a", "n"), api.ErrMany), refused("grants, twice", with(folders(1), fillGrants), ask("a", "f0"), api.ErrTwice),
	}
	for _, s := range noNames {
		out = append(out, refused("no name", sample(), ask("a", s), api.ErrForm), refused("no name, folders", folders(8), ask("a", s), api.ErrForm))
	}
	return out
}

// fillGrants: as many as there may be, all of one folder.
func fillGrants(h *api.Hub) {
	h.Grants = nil
	for i := range api.MaxGrants {
		h.Grants = append(h.Grants, api.Grant{Folder: "f0", Who: fmt.Sprint("w", 10+i), Right: api.RightOwner})
	}
}

func gives() []served {
	ask := func(who, folder, name string, right int) api.Request {
		return api.Request{Kind: api.AskGrant, Who: who, Folder: folder, Name: name, Number: right}
	}
	given := func(who, name string, right int, then string) served {
		return served{name: fmt.Sprint(who, " gives ", name, " ", right), h: sample(), r: ask(who, "f", name, right), change: func(h *api.Hub) { h.Grants = brief.Grants(then) }}
	}
	out := []served{
		given("a", "d", 1, "e:c3 f:a3 f:b2 f:c1 f:d1 g:b3"), given("a", "d", 3, "e:c3 f:a3 f:b2 f:c1 f:d3 g:b3"), given("a", "c", 2, "e:c3 f:a3 f:b2 f:c2 g:b3"), given("a", "b", 1, "e:c3 f:a3 f:b1 f:c1 g:b3"),
		given("a", "b", 0, "e:c3 f:a3 f:c1 g:b3"), given("b", "b", 0, "e:c3 f:a3 f:c1 g:b3"), given("c", "c", 0, "e:c3 f:a3 f:b2 g:b3"), given("a", "a", 3, "e:c3 f:a3 f:b2 f:c1 g:b3"),
		refused("no folder", sample(), ask("a", "q", "b", 1), api.ErrDenied), refused("no right", sample(), ask("z", "f", "z", 1), api.ErrDenied), refused("a right elsewhere", sample(), ask("a", "e", "a", 1), api.ErrDenied),
		refused("no right to take", sample(), ask("z", "f", "z", 0), api.ErrDenied), refused("no right, name", sample(), ask("z", "f", "?", 1), api.ErrDenied), refused("no right, range", sample(), ask("z", "f", "b", 9), api.ErrDenied),
		refused("no owner", sample(), ask("b", "f", "d", 1), api.ErrDenied), refused("no owner", sample(), ask("c", "f", "c", 2), api.ErrDenied), refused("no owner takes", sample(), ask("b", "f", "c", 0), api.ErrDenied),
		refused("name, range", sample(), ask("a", "f", "?", 4), api.ErrForm), refused("name, no owner", sample(), ask("b", "f", "", 1), api.ErrForm),
		refused("range", sample(), ask("a", "f", "d", 4), api.ErrRange), refused("range", sample(), ask("a", "f", "d", -1), api.ErrRange), refused("range, no owner", sample(), ask("c", "f", "d", 4), api.ErrRange),
		refused("none to take", sample(), ask("a", "f", "d", 0), api.ErrNone), refused("the last owner", sample(), ask("a", "f", "a", 0), api.ErrState), refused("the last owner", sample(), ask("a", "f", "a", 2), api.ErrState),
		refused("grants", with(folders(1), fillGrants), ask("w10", "f0", "a", 1), api.ErrMany),
	}
	for _, s := range noNames {
		out = append(out, refused("no name", sample(), ask("a", s, "b", 1), api.ErrDenied))
	}
	return out
}

func commits() []served {
	ask := func(who, folder, key string, l []api.Change) api.Request {
		return api.Request{Kind: api.AskCommit, Who: who, Folder: folder, Key: key, Changes: l}
	}
	committed := func(who string, i int, key, changes string, number int) served {
		r := ask(who, sample().Folders[i].Name, key, brief.Changes(changes))
		return served{name: fmt.Sprint(who, " commits ", changes), h: sample(), r: r, a: api.Answer{Number: number}, change: func(h *api.Hub) {
			j := &h.Folders[i].Journal
			j.Commits = append(j.Commits, brief.Commits(number, key+" "+changes)...)
		}}
	}
	met := func(who, folder, key string, l []api.Change, number int) served {
		return served{name: key + " was met", h: sample(), r: ask(who, folder, key, l), a: api.Answer{Number: number}}
	}
	atEnd := with(sample(), func(h *api.Hub) { h.Folders[0].Journal = brief.Journal(api.MaxVersion, nil, "k a=1") })
	out := []served{
		committed("b", 1, "k3", "x=3 -d", 3), committed("a", 1, "k3", "d/y>y", 3), committed("c", 0, "k1", "n=1", 1), committed("b", 2, "k1", "z=8", 8),
		met("b", "f", "k1", brief.Changes("n=1"), 1), met("a", "f", "k2", nil, 2), met("b", "f", "k2", make([]api.Change, 21), 2), met("b", "g", "k7", brief.Changes("-q"), 7),
		refused("may look", sample(), ask("c", "f", "k3", brief.Changes("n=1")), api.ErrDenied), refused("may look, met", sample(), ask("c", "f", "k1", brief.Changes("x=1")), api.ErrDenied),
		refused("no right", sample(), ask("z", "f", "k3", brief.Changes("n=1")), api.ErrDenied), refused("no right, key", sample(), ask("z", "f", "", nil), api.ErrDenied), refused("a right elsewhere", sample(), ask("b", "e", "k", brief.Changes("n=1")), api.ErrDenied),
		refused("no folder", sample(), ask("b", "q", "k3", brief.Changes("n=1")), api.ErrDenied),
		refused("key", sample(), ask("b", "f", "", brief.Changes("n=1")), api.ErrForm), refused("key", sample(), ask("b", "f", "k_3", brief.Changes("-q")), api.ErrForm), refused("no changes", sample(), ask("b", "f", "k3", nil), api.ErrForm),
		refused("number", atEnd, ask("c", "e", "l", brief.Changes("-q")), api.ErrRange), refused("changes", sample(), ask("b", "f", "k3", make([]api.Change, 21)), api.ErrMany),
		refused("kind", sample(), ask("b", "f", "k3", make([]api.Change, 20)), api.ErrKind), refused("nothing there", sample(), ask("b", "f", "k3", brief.Changes("n=1 -q")), api.ErrNone),
		refused("twice", sample(), ask("b", "f", "k3", brief.Changes("+d")), api.ErrTwice), refused("stale", sample(), ask("b", "f", "k3", brief.Based(brief.Changes("-d"), 1)), api.ErrStale),
		fullJournal(ask("a", "f", "new", brief.Changes("n=1"))),
	}
	for _, s := range noNames {
		out = append(out, refused("no name", sample(), ask("a", s, "k", brief.Changes("n=1")), api.ErrDenied))
	}
	return out
}

// fullJournal of f: by one commit more its first one goes.
func fullJournal(r api.Request) served {
	h := sample()
	for i := range 28 {
		h.Folders[1].Journal.Commits = append(h.Folders[1].Journal.Commits, brief.Commits(3+i, fmt.Sprintf("l%d x=%d", i, i))...)
	}
	return served{name: "one commit more than there may be", h: h, r: r, a: api.Answer{Number: 31}, change: func(h *api.Hub) {
		j := h.Folders[1].Journal
		h.Folders[1].Journal = api.Journal{Base: brief.Entries(1, "x=1"), First: 2, Commits: append(j.Commits[1:], api.Commit{Number: 31, Key: r.Key, Changes: r.Changes})}
	}}
}

func pages() []served {
	ask := func(who, folder string, cursor int) api.Request {
		return api.Request{Kind: api.AskPage, Who: who, Folder: folder, Number: cursor}
	}
	read := func(who, folder string, cursor int, p api.Page) served {
		return served{name: fmt.Sprint(who, " reads ", folder, " behind ", cursor), h: sample(), r: ask(who, folder, cursor), a: api.Answer{Page: p}}
	}
	both := sample().Folders[1].Journal.Commits
	forgot := api.Page{Reset: true, Tree: append(brief.Entries(3, "w=3"), brief.Entries(7, "z=7")...), Cursor: 7}
	many := sample()
	for i := range 10 {
		many.Folders[1].Journal.Commits = append(many.Folders[1].Journal.Commits, brief.Commits(3+i, fmt.Sprintf("l%d x=%d", i, i))...)
	}
	ten := func(from int, more bool) served {
		l := many.Folders[1].Journal.Commits[from : from+10]
		return served{name: "ten", h: many, r: ask("a", "f", from), a: api.Answer{Page: api.Page{Commits: l, Cursor: from + 10, More: more}}}
	}
	out := []served{
		read("c", "f", 0, api.Page{Commits: both, Cursor: 2}), read("b", "f", 1, api.Page{Commits: both[1:], Cursor: 2}), read("a", "f", 2, api.Page{Cursor: 2}), read("c", "e", 0, api.Page{}),
		read("b", "g", 0, forgot), read("b", "g", 5, forgot), read("b", "g", 6, api.Page{Commits: sample().Folders[2].Journal.Commits, Cursor: 7}), read("b", "g", 7, api.Page{Cursor: 7}),
		ten(0, true), ten(1, true), ten(2, false),
		refused("no right", sample(), ask("z", "f", 0), api.ErrDenied), refused("no right, range", sample(), ask("z", "f", -1), api.ErrDenied), refused("a right elsewhere", sample(), ask("c", "g", 0), api.ErrDenied),
		refused("no folder", sample(), ask("c", "q", 0), api.ErrDenied), refused("below 0", sample(), ask("c", "f", -1), api.ErrRange), refused("too far", sample(), ask("c", "f", 3), api.ErrNone), refused("too far", sample(), ask("c", "e", 1), api.ErrNone),
	}
	for _, s := range noNames {
		out = append(out, refused("no name", sample(), ask("a", s, 0), api.ErrDenied))
	}
	return out
}

// uploads: whoever somebody is, whatever the folders are. Sessions that are over go with the first change; who only queries changes nothing.
func uploads() []served {
	ask := func(kind int, who string, number, offset int, text string) api.Request {
		return api.Request{Kind: kind, Who: who, Number: number, Offset: offset, Text: text}
	}
	changed := func(name string, r api.Request, number, next int, sessions ...string) served {
		return served{name: name, h: sample(), r: r, a: api.Answer{Number: number}, change: func(h *api.Hub) {
			h.Uploads.Sessions, h.Uploads.Next = brief.Sessions(sessions...), next
		}}
	}
	queried := func(who string, number, bytes int) served {
		return served{name: "queried", h: sample(), r: ask(api.AskQuery, who, number, 0, ""), a: api.Answer{Number: bytes}}
	}
	full := folders(1)
	full.Uploads.Next = 30
	for i := range api.MaxSessions {
		full.Uploads.Sessions = append(full.Uploads.Sessions, brief.Sessions(fmt.Sprint(i+1, " a  0 9"))...)
	}
	return []served{
		changed("opened", ask(api.AskOpen, "z", 20, 0, ""), 6, 7, "2 b abcd 4 9", "3 b ab 5 9", "4 c cc 2 9", "5 a  0 5", "6 z  20 15"),
		changed("opened, as one is over", ask(api.AskOpen, "b", 11, 0, ""), 6, 7, "2 b abcd 4 9", "3 b ab 5 9", "4 c cc 2 9", "5 a  0 5", "6 b  11 15"),
		changed("appended", ask(api.AskAppend, "b", 3, 2, "cd"), 4, 6, "2 b abcd 4 9", "3 b abcd 5 15", "4 c cc 2 9", "5 a  0 5"),
		changed("appended again", ask(api.AskAppend, "b", 3, 0, "ab"), 2, 6, "2 b abcd 4 9", "3 b ab 5 9", "4 c cc 2 9", "5 a  0 5"),
		queried("b", 2, 4), queried("b", 3, 2), queried("c", 4, 2), queried("a", 5, 0),
		refused("size", sample(), ask(api.AskOpen, "z", -1, 0, ""), api.ErrRange), refused("size", sample(), ask(api.AskOpen, "z", 301, 0, ""), api.ErrRange), refused("size, sessions", full, ask(api.AskOpen, "z", 301, 0, ""), api.ErrRange),
		refused("sessions", full, ask(api.AskOpen, "z", 1, 0, ""), api.ErrMany), refused("room", sample(), ask(api.AskOpen, "z", 21, 0, ""), api.ErrFull), refused("room", sample(), ask(api.AskOpen, "b", 12, 0, ""), api.ErrFull),
		refused("over", sample(), ask(api.AskAppend, "b", 1, 4, ""), api.ErrNone), refused("another one's", sample(), ask(api.AskAppend, "a", 3, 2, "c"), api.ErrNone), refused("none", sample(), ask(api.AskAppend, "b", 9, 2, "c"), api.ErrNone),
		refused("offset", sample(), ask(api.AskAppend, "b", 3, 1, "c"), api.ErrState), refused("offset, bytes", sample(), ask(api.AskAppend, "b", 3, 3, "cdef"), api.ErrState), refused("bytes", sample(), ask(api.AskAppend, "b", 3, 2, "cdef"), api.ErrMany),
		refused("over", sample(), ask(api.AskQuery, "b", 1, 0, ""), api.ErrNone), refused("another one's", sample(), ask(api.AskQuery, "a", 3, 0, ""), api.ErrNone), refused("none", sample(), ask(api.AskQuery, "b", 0, 0, ""), api.ErrNone),
	}
}

func finishes() []served {
	ask := func(who string, session int, folder, name, key string, base int) api.Request {
		return api.Request{Kind: api.AskFinish, Who: who, Number: session, Folder: folder, Name: name, Key: key, Base: base}
	}
	finished := func(who string, session, i int, name, text, key string, base, number int, left ...string) served {
		r := ask(who, session, sample().Folders[i].Name, name, key, base)
		return served{name: fmt.Sprint(session, " is finished"), h: sample(), r: r, a: api.Answer{Number: number}, change: func(h *api.Hub) {
			h.Uploads.Sessions = brief.Sessions(left...)
			if j := &h.Folders[i].Journal; number == j.First+len(j.Commits) {
				l := []api.Change{{Kind: api.ChangeWrite, Path: name, Text: text, Base: base}}
				j.Commits = append(j.Commits, api.Commit{Number: number, Key: key, Changes: l})
			}
		}}
	}
	atEnd := with(sample(), func(h *api.Hub) { h.Folders[0].Journal = brief.Journal(api.MaxVersion, nil, "k a=1") })
	out := []served{
		finished("b", 2, 1, "up", "abcd", "k3", api.Any, 3, "3 b ab 5 9", "4 c cc 2 9", "5 a  0 5"),
		finished("b", 2, 1, "d/y", "abcd", "k3", 2, 3, "3 b ab 5 9", "4 c cc 2 9", "5 a  0 5"),
		finished("b", 2, 2, "z", "abcd", "k1", 7, 8, "3 b ab 5 9", "4 c cc 2 9", "5 a  0 5"),
		finished("c", 4, 0, "up", "cc", "k3", 0, 1, "2 b abcd 4 9", "3 b ab 5 9", "5 a  0 5"),
		finished("a", 5, 1, "up", "", "k3", 0, 3, "2 b abcd 4 9", "3 b ab 5 9", "4 c cc 2 9"),
		finished("b", 2, 1, "/", "", "k1", -9, 1, "3 b ab 5 9", "4 c cc 2 9", "5 a  0 5"), // the key was met: nothing is committed, and the session is finished
		refused("may look", sample(), ask("c", 4, "f", "up", "k3", -1), api.ErrDenied), refused("may look, session", sample(), ask("c", 9, "f", "up", "k3", -1), api.ErrDenied), refused("no right", sample(), ask("b", 2, "e", "up", "k3", -1), api.ErrDenied),
		refused("no folder", sample(), ask("b", 2, "q", "up", "k3", -1), api.ErrDenied), refused("no right, not all came", sample(), ask("b", 3, "e", "/", "", -2), api.ErrDenied),
		refused("over", sample(), ask("b", 1, "f", "up", "k3", -1), api.ErrNone), refused("another one's", sample(), ask("b", 4, "f", "up", "k3", -1), api.ErrNone), refused("none, met", sample(), ask("b", 9, "f", "up", "k1", -1), api.ErrNone), refused("none, key", sample(), ask("b", 9, "f", "up", "", -1), api.ErrNone),
		refused("not all came", sample(), ask("b", 3, "f", "up", "k3", -1), api.ErrState), refused("not all came, key", sample(), ask("b", 3, "f", "/", "", -1), api.ErrState), refused("not all came, met", sample(), ask("b", 3, "f", "up", "k1", -1), api.ErrState),
		refused("key", sample(), ask("b", 2, "f", "up", "", -1), api.ErrForm), refused("key, number", atEnd, ask("c", 4, "e", "up", "_", -1), api.ErrForm), refused("number", atEnd, ask("c", 4, "e", "up", "l", -1), api.ErrRange),
		refused("path", sample(), ask("b", 2, "f", "/", "k3", -1), api.ErrForm), refused("path", sample(), ask("b", 2, "f", "", "k3", -1), api.ErrForm), refused("path too deep", sample(), ask("b", 2, "f", "a/a/a/a/a/a/a", "k3", -1), api.ErrMany),
		refused("base", sample(), ask("b", 2, "f", "x", "k3", -2), api.ErrRange), refused("base", sample(), ask("b", 2, "f", "x", "k3", api.MaxVersion+1), api.ErrRange),
		refused("no parent", sample(), ask("b", 2, "f", "q/up", "k3", -1), api.ErrNone), refused("a file above", sample(), ask("b", 2, "f", "x/up", "k3", -1), api.ErrState), refused("a folder there", sample(), ask("b", 2, "f", "d", "k3", -1), api.ErrState),
		refused("stale", sample(), ask("b", 2, "f", "x", "k3", 0), api.ErrStale),
	}
	for _, s := range noNames {
		out = append(out, refused("no name", sample(), ask("b", 2, s, "up", "k3", -1), api.ErrDenied))
	}
	return out
}

func testAll(t *testing.T, l []served) {
	t.Helper()
	for _, x := range l {
		x.test(t)
	}
}

func TestI2I3Make(t *testing.T)   { testAll(t, makes()) }
func TestI2I3Grant(t *testing.T)  { testAll(t, gives()) }
func TestI2I3Commit(t *testing.T) { testAll(t, commits()) }
func TestI2I3Page(t *testing.T)   { testAll(t, pages()) }
func TestI2I3Upload(t *testing.T) { testAll(t, uploads()) }
func TestI2I3Finish(t *testing.T) { testAll(t, finishes()) }

// The document's example: who made f commits there: number 1.
func TestI2Example(t *testing.T) {
	h, _ := hub.New(10, 50)
	h, a, err := hub.Serve(h, api.Request{Kind: api.AskMake, Who: "a", Folder: "f"})
	want(t, "made", shown(a, err), shown(api.Answer{}, api.OK))
	_, a, err = hub.Serve(h, api.Request{Kind: api.AskCommit, Who: "a", Folder: "f", Key: "k", Changes: brief.Changes("x=1")})
	want(t, "committed", shown(a, err), shown(api.Answer{Number: 1}, api.OK))
}
