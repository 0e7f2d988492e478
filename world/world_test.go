package world_test

import (
	"fmt"
	"slices"
	"strings"
	"testing"

	"tetherpost/api"
	"tetherpost/brief"
	"tetherpost/client"
	"tetherpost/hub"
	"tetherpost/wire"
	"tetherpost/world"
)

// shown is the same of lists that are nil, and of those that are empty.
func shown(a ...any) string { return strings.ReplaceAll(fmt.Sprintf("%#v", a), "(nil)", "{}") }

func want(t *testing.T, name string, got, want string) {
	t.Helper()
	if got != want {
		t.Errorf("%s: %s, must be %s", name, got, want)
	}
}

const (
	least = -1 << 63
	most  = 1<<63 - 1
)

// sampleHub: of f o is the owner, a and b may edit, and v may look; g is b's, and its beginning was forgotten.
func sampleHub() api.Hub {
	return api.Hub{
		Folders: []api.Shared{
			{Name: "f", Journal: brief.Journal(1, nil, "k1 x=1", "k2 +d d/y=2")},
			{Name: "g", Journal: brief.Journal(7, brief.Entries(3, "w=3", "z=3"), "k7 z=7")},
		},
		Grants:  brief.Grants("f:a2 f:b2 f:o3 f:v1 g:b3"),
		Uploads: api.Uploads{Sessions: brief.Sessions("1 o ab 2 9"), Next: 2, Lasts: 10, Room: 20},
		Now:     5,
	}
}

// whole tree of f, as the sample's hub has it.
func whole() []api.Entry {
	return slices.Concat(brief.Entries(2, "d", "d/y=2"), brief.Entries(1, "x=1"))
}

// sampleClients: a knows all, and changed nothing; b knows some, and changed that; v knows nothing; z asks where it has no right.
func sampleClients() []api.Client {
	return []api.Client{
		{Who: "a", Folder: "f", Base: whole(), Cursor: 2, Mine: whole(), Keys: 7},
		{Who: "b", Folder: "f", Base: brief.Entries(1, "x=1"), Cursor: 1, Mine: brief.Entries(1, "d=b", "x=b"), Keys: 1},
		{Who: "v", Folder: "f"},
		{Who: "z", Folder: "f", Mine: brief.Entries(1, "s=z"), Key: "z-1", Asked: brief.Based(brief.Changes("s=z"), 0), Keys: 1},
	}
}

// Places of the sample's letters.
const (
	pageAsked  = iota // b asks for a page
	pageTold          // v is told one
	deniedTold        // z is told that it may not look
	asked             // b asks for a commit
	told              // z is told that it may not commit
	lateTold          // a is told a page that it has already
)

// sample world, with letters on their way.
func sample() api.World {
	l := brief.Based(brief.Changes("n=1"), 1)
	return api.World{Hub: sampleHub(), Clients: sampleClients(), Letters: []api.Letter{
		request(1, api.Request{Kind: api.AskPage, Who: "b", Folder: "f", Number: 1}),
		answer(2, api.AskPage, api.Answer{Page: api.Page{Commits: sampleHub().Folders[0].Journal.Commits, Cursor: 2}}),
		answer(3, api.AskPage, api.Answer{Err: api.ErrDenied}),
		request(1, api.Request{Kind: api.AskCommit, Who: "b", Folder: "f", Key: "b-1", Changes: l}),
		answer(3, api.AskCommit, api.Answer{Err: api.ErrDenied}),
		answer(0, api.AskPage, api.Answer{Page: api.Page{Commits: sampleHub().Folders[0].Journal.Commits[:1], Cursor: 1, More: true}}),
	}}
}

func request(from int, r api.Request) api.Letter {
	s, err := wire.Ask(r)
	if err != api.OK {
		panic(err)
	}
	return api.Letter{From: from, Kind: r.Kind, Text: s}
}

func answer(from, kind int, a api.Answer) api.Letter {
	s, err := wire.Tell(a)
	if err != api.OK {
		panic(err)
	}
	return api.Letter{From: from, Kind: kind, Answer: true, Text: s}
}

// with something of it changed.
func with(change func(*api.World)) api.World {
	w := sample()
	change(&w)
	return w
}

// crowded world: as many letters as there may be.
func crowded(w *api.World) {
	for len(w.Letters) < api.MaxLetters {
		w.Letters = append(w.Letters, w.Letters[pageAsked])
	}
}

func TestK1Right(t *testing.T) {
	h, _ := hub.New(1, 0)
	for name, w := range map[string]api.World{
		"sample":     sample(),
		"nobody":     {Hub: h},
		"crowded":    with(crowded),
		"no letters": with(func(w *api.World) { w.Letters = nil }),
		"empty list": with(func(w *api.World) { w.Letters = []api.Letter{} }),
		"any request, and any answer, is one": with(func(w *api.World) {
			w.Letters[0] = api.Letter{Kind: api.AskPage, Text: "-9;0;0;0;0;0;0;0;0;0;"}
			w.Letters[1] = api.Letter{Kind: api.AskCommit, Answer: true, Text: "99;-7;1;0;0;5;1;"}
		}),
	} {
		want(t, name, shown(world.Check(w)), shown(api.OK))
	}
}

type fault struct {
	name string
	w    api.World
	err  api.Errno
}

// faults of the hub and of clients: where several errors apply, the one that is named first is wanted.
func faults() []fault {
	no := api.Client{Who: "?", Folder: "f"}
	return []fault{
		{"nothing", api.World{}, api.ErrRange},
		{"hub's time", with(func(w *api.World) { w.Hub.Now = -1 }), api.ErrRange},
		{"hub's folders", with(func(w *api.World) { w.Hub.Folders[0].Name = "?" }), api.ErrForm},
		{"hub's journal", with(func(w *api.World) { w.Hub.Folders[0].Journal.Commits[1].Key = "k1" }), api.ErrTwice},
		{"hub's grants", with(func(w *api.World) { w.Hub.Grants = nil }), api.ErrNone},
		{"hub's uploads", with(func(w *api.World) { w.Hub.Uploads.Room = 1 }), api.ErrFull},
		{"hub, clients", with(func(w *api.World) { w.Hub.Now, w.Clients = -1, make([]api.Client, 5) }), api.ErrRange},
		{"hub, client", with(func(w *api.World) { w.Hub.Now, w.Clients[0] = -1, no }), api.ErrRange},
		{"clients", with(func(w *api.World) {
			w.Clients = append(w.Clients, api.Client{Who: "c", Folder: "f"})
		}), api.ErrMany},
		{"clients, client", with(func(w *api.World) { w.Clients = make([]api.Client, 5) }), api.ErrMany},
		{"first client", with(func(w *api.World) { w.Clients[0] = no }), api.ErrForm},
		{"last client", with(func(w *api.World) { w.Clients[3].Cursor = -1 }), api.ErrRange},
		{"client's base", with(func(w *api.World) { w.Clients[1].Base = brief.Entries(1, "a/b") }), api.ErrNone},
		{"client's mine", with(func(w *api.World) { w.Clients[1].Mine = brief.Entries(1, "b", "a") }), api.ErrState},
		{"client's asked", with(func(w *api.World) { w.Clients[3].Asked = make([]api.Change, 21) }), api.ErrMany},
		{"two clients", with(func(w *api.World) { w.Clients[0].Keys, w.Clients[1].Who = -1, "?" }), api.ErrRange},
		{"one who twice", with(func(w *api.World) { w.Clients[3].Who = "a" }), api.ErrTwice},
		{"one who twice, of two folders", with(func(w *api.World) { w.Clients[1].Who, w.Clients[1].Folder = "a", "g" }), api.ErrTwice},
		{"one who twice, client", with(func(w *api.World) { w.Clients[1].Who, w.Clients[3].Cursor = "a", -1 }), api.ErrRange},
	}
}

// letterFaults: those that no new world has.
func letterFaults() []fault {
	letter := func(change func(*api.Letter)) api.World {
		return with(func(w *api.World) { change(&w.Letters[pageAsked]) })
	}
	out := []fault{
		{"letters", with(func(w *api.World) { crowded(w); w.Letters = append(w.Letters, w.Letters[0]) }), api.ErrMany},
		{"letters, letter", with(func(w *api.World) { w.Letters = make([]api.Letter, 31) }), api.ErrMany},
		{"letters, client", with(func(w *api.World) { w.Letters, w.Clients[0].Cursor = make([]api.Letter, 31), -1 }), api.ErrMany},
		{"hub, letters", with(func(w *api.World) { w.Letters, w.Hub.Now = make([]api.Letter, 31), -1 }), api.ErrRange},
		{"client, letter", with(func(w *api.World) { w.Clients[3].Cursor, w.Letters[0].Kind = -1, 3 }), api.ErrRange},
		{"one who twice, letter", with(func(w *api.World) { w.Clients[3].Who, w.Letters[0].Kind = "a", 3 }), api.ErrTwice},
		{"nobody's", with(func(w *api.World) { w.Clients = nil }), api.ErrRange},
		{"last one's", with(func(w *api.World) { w.Clients = w.Clients[:3] }), api.ErrRange},
		{"from, kind", letter(func(l *api.Letter) { l.From, l.Kind = 4, 3 }), api.ErrRange},
		{"from, text", letter(func(l *api.Letter) { l.From, l.Text = 4, "" }), api.ErrRange},
		{"kind, text", letter(func(l *api.Letter) { l.Kind, l.Text = 3, "" }), api.ErrKind},
		{"a request as an answer", letter(func(l *api.Letter) { l.Answer = true }), api.ErrForm},
		{"an answer as a request", with(func(w *api.World) { w.Letters[pageTold].Answer = false }), api.ErrForm},
		{"text of an answer", with(func(w *api.World) { w.Letters[lateTold].Text += "0;" }), api.ErrForm},
		{"text, from of the one behind it", with(func(w *api.World) { w.Letters[0].Text, w.Letters[1].From = "", 4 }), api.ErrForm},
		{"kind, from of the one behind it", with(func(w *api.World) { w.Letters[0].Kind, w.Letters[1].From = 0, 4 }), api.ErrKind},
	}
	for _, n := range []int{-1, 4, least, most} {
		out = append(out, fault{fmt.Sprint("from ", n), letter(func(l *api.Letter) { l.From = n }), api.ErrRange})
	}
	for _, n := range []int{-1, 0, 3, 4, 5, 6, 7, 8, least, most} {
		out = append(out, fault{fmt.Sprint("kind ", n), letter(func(l *api.Letter) { l.Kind = n }), api.ErrKind})
	}
	for _, s := range []string{"", "x", "2;1;b1;f0;0;0;01;0;0;0;", "2;1;b1;f0;0;0;1;0;0;0; ", "2;1;b1;f0;0;0;1;0;0;0"} {
		out = append(out, fault{fmt.Sprintf("text %q", s), letter(func(l *api.Letter) { l.Text = s }), api.ErrForm})
	}
	return out
}

// K1: all others tell this first.
func TestK1Faults(t *testing.T) {
	for _, x := range append(faults(), letterFaults()...) {
		want(t, x.name, shown(world.Check(x.w)), shown(x.err))
		for kind := range 11 {
			w, err := world.Step(x.w, api.Event{Kind: kind, Which: 99, Change: api.Change{}})
			want(t, fmt.Sprint(x.name, ", event ", kind), shown(w, err), shown(api.World{}, x.err))
		}
		ok, err := world.Settled(x.w)
		want(t, x.name+", settled", shown(ok, err), shown(false, x.err))
	}
}

func TestK1New(t *testing.T) {
	for n := range 5 {
		w, err := world.New(sampleHub(), sampleClients()[:n])
		want(t, fmt.Sprint(n, " clients"), shown(w, err), shown(api.World{Hub: sampleHub(), Clients: sampleClients()[:n]}, api.OK))
	}
	for _, x := range faults() {
		w, err := world.New(x.w.Hub, x.w.Clients)
		want(t, x.name, shown(w, err), shown(api.World{}, x.err))
	}
}

// settled world: a and v show and know all that is in f, b all that is in g; z has no right, and knows nothing.
func settled() api.World {
	return with(func(w *api.World) {
		g, _ := hub.Tree(w.Hub, "g")
		b, z := &w.Clients[1], &w.Clients[2]
		b.Folder, b.Base, b.Mine = "g", g, g
		z.Base, z.Mine = whole(), whole()
	})
}

func TestK3(t *testing.T) {
	for _, x := range []struct {
		name   string
		change func(*api.World)
		want   bool
	}{
		{"all are", func(w *api.World) {}, true},
		{"nobody", func(w *api.World) { w.Clients, w.Letters = nil, nil }, true},
		{"nothing on its way", func(w *api.World) { w.Letters = nil }, true},
		{"versions of what a shows", func(w *api.World) { w.Clients[0].Mine = brief.Entries(9, "d", "d/y=2", "x=1") }, true},
		{"versions of what a knows", func(w *api.World) { w.Clients[0].Base = brief.Entries(9, "d", "d/y=2", "x=1") }, true},
		{"cursor", func(w *api.World) { w.Clients[0].Cursor = 1 }, true},
		{"a shows more", func(w *api.World) { w.Clients[0].Mine = append(whole(), brief.Entries(1, "y=")...) }, false},
		{"a shows less", func(w *api.World) { w.Clients[0].Mine = whole()[:2] }, false},
		{"a shows another text", func(w *api.World) { w.Clients[0].Mine[2].Text = "2" }, false},
		{"a shows a folder", func(w *api.World) { w.Clients[0].Mine = brief.Entries(1, "d", "d/y", "x=1") }, false},
		{"a knows less", func(w *api.World) { w.Clients[0].Base = nil }, false},
		{"a knows another text", func(w *api.World) { w.Clients[0].Base[1].Text = "" }, false},
		{"a knows and shows the same, and not that", func(w *api.World) { w.Clients[0].Base, w.Clients[0].Mine = nil, nil }, false},
		{"a asked", func(w *api.World) { w.Clients[0].Key, w.Clients[0].Asked = "a-7", brief.Changes("x=1") }, false},
		{"b shows less, in another folder", func(w *api.World) { w.Clients[1].Mine = nil }, false},
		{"b in another one's folder", func(w *api.World) { w.Clients[1].Folder = "f" }, false},
		{"v may only look, and changed something", func(w *api.World) { w.Clients[2].Mine = nil }, false},
		{"v knows nothing", func(w *api.World) { w.Clients[2].Base, w.Clients[2].Mine = nil, nil }, false},
		{"v has no right any more", func(w *api.World) { w.Clients[2].Mine, w.Hub.Grants = nil, brief.Grants("f:a2 f:b2 f:o3 g:b3") }, true},
		{"z has a right", func(w *api.World) { w.Hub.Grants = brief.Grants("f:a2 f:o3 f:v1 f:z1 g:b3") }, false},
		{"z knows what it may not", func(w *api.World) { w.Clients[3].Base = whole() }, true},
		{"no such folder", func(w *api.World) { w.Clients[0].Folder, w.Clients[0].Mine = "e", nil }, true},
		{"no such folder, and asked", func(w *api.World) {
			c := &w.Clients[0]
			c.Folder, c.Key, c.Asked = "e", "a-7", brief.Changes("x=1")
		}, true},
		{"no right there", func(w *api.World) { w.Clients[0].Folder = "g" }, true},
		{"the hub changed", func(w *api.World) {
			w.Hub, _, _ = hub.Serve(w.Hub, api.Request{Kind: api.AskCommit, Who: "o", Folder: "f", Key: "o", Changes: brief.Changes("-x")})
		}, false},
	} {
		w := settled()
		x.change(&w)
		ok, err := world.Settled(w)
		want(t, x.name, shown(ok, err), shown(x.want, api.OK))
	}
}

// K3: a client of a folder that is not there has nothing to settle.
func TestK3Example(t *testing.T) {
	h, _ := hub.New(10, 100)
	c, _ := client.New("a", "f")
	w, err := world.New(h, []api.Client{c})
	want(t, "New", shown(err), shown(api.OK))
	ok, err := world.Settled(w)
	want(t, "Settled", shown(ok, err), shown(true, api.OK))
}
