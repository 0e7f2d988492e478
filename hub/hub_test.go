package hub_test

import (
	"fmt"
	"strings"
	"testing"

	"tetherpost/api"
	"tetherpost/brief"
	"tetherpost/hub"
	"tetherpost/wire"
)

const far = api.MaxTime

// sample: e is c's alone; of f a is the owner, b may edit, and c may look; g is b's, and its beginning was forgotten. Of the uploads, at time 5, the first is over, and the last one lasts no longer than that.
func sample() api.Hub {
	return api.Hub{
		Folders: []api.Shared{
			{Name: "e", Journal: brief.Journal(1, nil)},
			{Name: "f", Journal: brief.Journal(1, nil, "k1 x=1", "k2 +d d/y=2")},
			{Name: "g", Journal: brief.Journal(7, brief.Entries(3, "w=3", "z=3"), "k7 z=7")},
		},
		Grants: brief.Grants("e:c3 f:a3 f:b2 f:c1 g:b3"),
		Uploads: api.Uploads{
			Sessions: brief.Sessions("1 b over 4 4", "2 b abcd 4 9", "3 b ab 5 9", "4 c cc 2 9", "5 a  0 5"),
			Next:     6, Lasts: 10, Room: 20,
		},
		Now: 5,
	}
}

// with something of it changed.
func with(h api.Hub, change func(*api.Hub)) api.Hub {
	change(&h)
	return h
}

// folders that are empty, each of a.
func folders(n int) api.Hub {
	h := api.Hub{Uploads: api.Uploads{Next: 1, Lasts: 1}}
	for i := range n {
		name := fmt.Sprint("f", i)
		h.Folders = append(h.Folders, api.Shared{Name: name, Journal: api.Journal{First: 1}})
		h.Grants = append(h.Grants, api.Grant{Folder: name, Who: "a", Right: api.RightOwner})
	}
	return h
}

// shown is the same of lists that are nil, and of those that are empty.
func shown(a ...any) string { return strings.ReplaceAll(fmt.Sprintf("%#v", a), "(nil)", "{}") }

func want(t *testing.T, name string, got, want string) {
	t.Helper()
	if got != want {
		t.Errorf("%s: %s, must be %s", name, got, want)
	}
}

const long = brief.Long

var noNames = brief.NoNames()

func TestI1New(t *testing.T) {
	for _, x := range []struct {
		lasts, room int
		err         api.Errno
	}{
		{10, 50, api.OK}, {1, 0, api.OK}, {1000000, 100000, api.OK},
		{0, 50, api.ErrRange}, {-1, 50, api.ErrRange}, {1000001, 50, api.ErrRange}, {10, -1, api.ErrRange}, {10, 100001, api.ErrRange}, {-1 << 63, 1<<63 - 1, api.ErrRange},
	} {
		var made api.Hub
		if x.err == api.OK {
			made = api.Hub{Uploads: api.Uploads{Next: 1, Lasts: x.lasts, Room: x.room}}
		}
		h, err := hub.New(x.lasts, x.room)
		want(t, fmt.Sprint(x), shown(h, err), shown(made, x.err))
		if err == api.OK {
			want(t, fmt.Sprint(x), shown(hub.Check(h)), shown(api.OK))
		}
	}
}

type fault struct {
	name string
	h    api.Hub
	err  api.Errno
}

// faults: where several errors apply, the one that is named first is wanted.
func faults() []fault {
	of := func(change func(*api.Hub)) api.Hub { return with(sample(), change) }
	out := []fault{
		{"nothing", api.Hub{}, api.ErrRange},
		{"now below 0", of(func(h *api.Hub) { h.Now = -1 }), api.ErrRange},
		{"now too late", of(func(h *api.Hub) { h.Now = far + 1 }), api.ErrRange},
		{"now, folders", of(func(h *api.Hub) { h.Now, h.Folders = -1, make([]api.Shared, 9) }), api.ErrRange},
		{"folders", folders(9), api.ErrMany},
		{"folders, name", of(func(h *api.Hub) { h.Folders = make([]api.Shared, 9) }), api.ErrMany},
		{"name, journal", of(func(h *api.Hub) { h.Folders[0] = api.Shared{} }), api.ErrForm},
		{"journal, name of the one behind it", of(func(h *api.Hub) { h.Folders[0].Journal.First, h.Folders[1].Name = 0, "" }), api.ErrRange},
		{"journal's base", of(func(h *api.Hub) { h.Folders[0].Journal.Base = brief.Entries(1, "a/b") }), api.ErrNone},
		{"journal's first", of(func(h *api.Hub) { h.Folders[2].Journal.First = 6 }), api.ErrState},
		{"journal's commits", of(func(h *api.Hub) { h.Folders[1].Journal.Commits = make([]api.Commit, 31) }), api.ErrMany},
		{"journal's keys", of(func(h *api.Hub) { h.Folders[1].Journal.Commits[1].Key = "k1" }), api.ErrTwice},
		{"journal, order", of(func(h *api.Hub) { h.Folders[0], h.Folders[2].Journal.First = h.Folders[1], 0 }), api.ErrRange},
		{"name, order", of(func(h *api.Hub) { h.Folders[0].Name, h.Folders[2].Name = "z", "?" }), api.ErrForm},
		{"order", of(func(h *api.Hub) { h.Folders[0], h.Folders[1] = h.Folders[1], h.Folders[0] }), api.ErrState},
		{"order at the end", of(func(h *api.Hub) { h.Folders[1], h.Folders[2] = h.Folders[2], h.Folders[1] }), api.ErrState},
		{"one folder twice", of(func(h *api.Hub) { h.Folders[2].Name = "f" }), api.ErrState},
		{"order, grants", of(func(h *api.Hub) { h.Folders[2].Name, h.Grants = "f", make([]api.Grant, 61) }), api.ErrState},
		{"grants", of(func(h *api.Hub) { h.Grants = make([]api.Grant, 61) }), api.ErrMany},
		{"a grant's name", of(func(h *api.Hub) { h.Grants[1].Who = "?" }), api.ErrForm},
		{"a grant's right", of(func(h *api.Hub) { h.Grants[1].Right = 4 }), api.ErrRange},
		{"grants' order", of(func(h *api.Hub) { h.Grants[1].Who = "b" }), api.ErrState},
		{"grants' order, folder", of(func(h *api.Hub) { h.Grants = brief.Grants("q:b3 q:a3") }), api.ErrState},
		{"no owner", of(func(h *api.Hub) { h.Grants[1].Right = 2 }), api.ErrNone},
		{"no owner, uploads", of(func(h *api.Hub) { h.Grants[1].Right, h.Uploads.Next = 2, 0 }), api.ErrNone},
		{"grant of no folder", of(func(h *api.Hub) { h.Grants = append(h.Grants, brief.Grants("h:b3")...) }), api.ErrNone},
		{"grant of no folder, ahead of all", of(func(h *api.Hub) { h.Grants = append(brief.Grants("a:b3"), h.Grants...) }), api.ErrNone},
		{"grant of no folder, between", of(func(h *api.Hub) { h.Grants = brief.Grants("e:c3 ee:a3 f:a3 g:b3") }), api.ErrNone},
		{"grants, and no folders", of(func(h *api.Hub) { h.Folders = nil }), api.ErrNone},
		{"no grant of the first folder", of(func(h *api.Hub) { h.Grants = h.Grants[1:] }), api.ErrNone},
		{"no grant of the last folder", of(func(h *api.Hub) { h.Grants = h.Grants[:4] }), api.ErrNone},
		{"no grant of one between", of(func(h *api.Hub) { h.Grants = brief.Grants("e:c3 g:b3") }), api.ErrNone},
		{"no grants", of(func(h *api.Hub) { h.Grants = nil }), api.ErrNone},
		{"as many of other folders", of(func(h *api.Hub) { h.Grants = brief.Grants("e:c3 h:a3 i:b3") }), api.ErrNone},
		{"folder, uploads", of(func(h *api.Hub) { h.Grants, h.Uploads.Next = nil, 0 }), api.ErrNone},
		{"uploads' next", of(func(h *api.Hub) { h.Uploads.Next = 0 }), api.ErrRange},
		{"uploads' sessions", of(func(h *api.Hub) { h.Uploads.Sessions = make([]api.Session, 21) }), api.ErrMany},
		{"a session's name", of(func(h *api.Hub) { h.Uploads.Sessions[4].Who = "" }), api.ErrForm},
		{"sessions' order", of(func(h *api.Hub) { h.Uploads.Sessions[4].Number = 4 }), api.ErrState},
		{"sessions' room", of(func(h *api.Hub) { h.Uploads.Room = 12 }), api.ErrFull},
	}
	for _, s := range noNames {
		out = append(out, fault{"name " + s, of(func(h *api.Hub) { h.Folders[1].Name = s }), api.ErrForm})
	}
	return out
}

func TestI1Check(t *testing.T) {
	for i, h := range []api.Hub{
		sample(), folders(0), folders(1), folders(8),
		with(sample(), func(h *api.Hub) { h.Now = 0 }), with(sample(), func(h *api.Hub) { h.Now = far }),
		with(folders(1), func(h *api.Hub) { h.Folders[0].Name, h.Grants[0].Folder = long, long }),
		with(folders(0), func(h *api.Hub) { h.Folders, h.Grants = []api.Shared{}, []api.Grant{} }),
		with(sample(), func(h *api.Hub) { h.Uploads.Room = 13 }),
	} {
		if err := hub.Check(h); err != api.OK {
			t.Errorf("%d: %d", i, err)
		}
	}
	for _, x := range faults() {
		if err := hub.Check(x.h); err != x.err {
			t.Errorf("%s: %d, must be %d", x.name, err, x.err)
		}
	}
}

// I1: the others tell what Check says ahead of what is wrong with all else, and answer nothing then.
func TestI1First(t *testing.T) {
	for _, x := range faults() {
		for _, r := range []api.Request{{}, {Kind: api.AskMake, Who: "a", Folder: "n"}, {Kind: api.AskOpen, Who: "a"}, {Kind: api.AskPage, Who: "a", Folder: "f"}} {
			h, a, err := hub.Serve(x.h, r)
			want(t, x.name+": Serve", shown(h, a, err), shown(api.Hub{}, api.Answer{}, x.err))
			s, _ := wire.Ask(r)
			h, s, err = hub.Text(x.h, s)
			want(t, x.name+": Text", shown(h, s, err), shown(api.Hub{}, "", x.err))
		}
		h, s, err := hub.Text(x.h, "")
		want(t, x.name+": Text", shown(h, s, err), shown(api.Hub{}, "", x.err))
		for _, n := range []int{-1, 0, 1, far + 1} {
			h, err := hub.Tick(x.h, n)
			want(t, x.name+": Tick", shown(h, err), shown(api.Hub{}, x.err))
		}
		for _, folder := range []string{"f", "q", ""} {
			l, err := hub.Tree(x.h, folder)
			want(t, x.name+": Tree", shown(l, err), shown([]api.Entry{}, x.err))
		}
	}
}

// I3: of a text that is no request there is an answer that says so, and nothing changes.
func TestI3Text(t *testing.T) {
	no, err := wire.Tell(api.Answer{Err: api.ErrForm})
	want(t, "an answer", shown(no, err), shown("1;0;0;0;0;0;0;", api.OK))
	for _, s := range []string{"", "2", "2;", "x", no, "2;1;a1;f0;0;0;0;0;0;0; ", "2;1;a1;f0;0;0;0;0;0;0", "02;1;a1;f0;0;0;0;0;0;0;", "-0;1;a1;f0;0;0;0;0;0;0;", "8;1;a1;n0;0;0;0;0;0;21;", "\x00\xff"} {
		h, got, err := hub.Text(sample(), s)
		want(t, fmt.Sprintf("%q", s), shown(h, got, err), shown(sample(), no, api.OK))
	}
	h, got, err := hub.Text(sample(), "2;1;c1;f0;0;0;1;0;0;0;")
	want(t, "a page", shown(h, got, err), shown(sample(), "0;0;0;0;1;2;2;k22;1;1;d0;0;-1;2;3;d/y0;1;2-1;2;0;", api.OK))
	h, got, err = hub.Text(sample(), "9;1;c1;f0;0;0;1;0;0;0;")
	want(t, "no kind", shown(h, got, err), shown(sample(), "7;0;0;0;0;0;0;", api.OK))
	h, got, err = hub.Text(sample(), "4;1;z1;?0;0;0;20;0;0;0;")
	want(t, "an upload", shown(len(h.Uploads.Sessions), got, err), shown(5, "0;6;0;0;0;0;0;", api.OK))
}

// I3: whatever a hub may have in it, it is told.
func TestI3All(t *testing.T) {
	h := sample()
	h.Folders[1].Journal = api.Journal{First: api.MaxVersion - 29}
	for i := range api.MaxCommits {
		var l []api.Change
		for k := range api.MaxChanges {
			l = append(l, api.Change{Kind: api.ChangeWrite, Path: fmt.Sprintf("%s%d", strings.Repeat("p", 18), 10+k), Text: strings.Repeat("\xff", api.MaxFile), Base: api.MaxVersion})
		}
		h.Folders[1].Journal.Commits = append(h.Folders[1].Journal.Commits, api.Commit{Number: api.MaxVersion - 29 + i, Key: fmt.Sprint(strings.Repeat("k", 18), 10+i), Changes: l})
	}
	for i := range api.MaxEntries {
		h.Folders[2].Journal.Base = append(h.Folders[2].Journal.Base, api.Entry{Path: fmt.Sprint("zz", 10+i), Text: strings.Repeat("t", api.MaxFile), Version: api.MaxVersion})
	}
	h.Folders[2].Journal.Base = h.Folders[2].Journal.Base[2:]
	h.Folders[2].Journal.Commits = brief.Commits(7, "k7 zz20=7")
	for _, r := range []api.Request{
		{Kind: api.AskPage, Who: "c", Folder: "f", Number: api.MaxVersion - 30}, {Kind: api.AskPage, Who: "c", Folder: "f", Number: 0}, {Kind: api.AskPage, Who: "b", Folder: "g"},
	} {
		_, a, err := hub.Serve(h, r)
		s, _ := wire.Ask(r)
		_, got, textErr := hub.Text(h, s)
		told, toldErr := wire.Told(got)
		want(t, fmt.Sprint(r), shown(told, toldErr, textErr), shown(a, api.OK, err))
		if a.Err != api.OK || len(a.Page.Commits) < 10 && len(a.Page.Tree) < 20 {
			t.Errorf("%v: %d, %d commits, %d entries", r, a.Err, len(a.Page.Commits), len(a.Page.Tree))
		}
	}
}

func TestI4Tick(t *testing.T) {
	for _, x := range []struct {
		now, n, then int
		err          api.Errno
	}{
		{0, 0, 0, api.OK}, {0, 1, 1, api.OK}, {5, 7, 12, api.OK}, {0, far, far, api.OK}, {far, 0, far, api.OK}, {far - 1, 1, far, api.OK}, {5, far - 5, far, api.OK},
		{5, -1, 0, api.ErrRange}, {5, -1 << 63, 0, api.ErrRange}, {0, far + 1, 0, api.ErrRange}, {far, 1, 0, api.ErrRange}, {5, far - 4, 0, api.ErrRange}, {far, 1<<63 - 1, 0, api.ErrRange},
	} {
		var then api.Hub
		if x.err == api.OK {
			then = with(sample(), func(h *api.Hub) { h.Now = x.then })
		}
		h, err := hub.Tick(with(sample(), func(h *api.Hub) { h.Now = x.now }), x.n)
		want(t, fmt.Sprint(x), shown(h, err), shown(then, x.err))
	}
}

// I4: as time goes, uploads that nothing is added to are over.
func TestI4TimeGoes(t *testing.T) {
	query := func(h api.Hub) api.Answer {
		_, a, _ := hub.Serve(h, api.Request{Kind: api.AskQuery, Who: "b", Number: 3})
		return a
	}
	h, _ := hub.Tick(sample(), 4)
	want(t, "at its last time", shown(query(h)), shown(api.Answer{Number: 2}))
	h, _ = hub.Tick(sample(), 5)
	want(t, "behind it", shown(query(h)), shown(api.Answer{Err: api.ErrNone}))
}

func TestI4Tree(t *testing.T) {
	for _, x := range []struct {
		folder string
		tree   []api.Entry
		err    api.Errno
	}{
		{"e", nil, api.OK},
		{"f", append(brief.Entries(2, "d", "d/y=2"), brief.Entries(1, "x=1")...), api.OK},
		{"g", append(brief.Entries(3, "w=3"), brief.Entries(7, "z=7")...), api.OK},
		{"q", nil, api.ErrNone}, {"F", nil, api.ErrNone}, {"a", nil, api.ErrNone}, {"", nil, api.ErrNone}, {"/", nil, api.ErrNone}, {"f/d", nil, api.ErrNone},
	} {
		l, err := hub.Tree(sample(), x.folder)
		want(t, x.folder, shown(l, err), shown(x.tree, x.err))
	}
}
