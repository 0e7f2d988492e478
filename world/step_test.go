package world_test

import (
	"fmt"
	"slices"
	"strings"
	"testing"

	"tetherpost/api"
	"tetherpost/brief"
	"tetherpost/client"
	"tetherpost/hub"
	"tetherpost/wire"
	"tetherpost/world"
)

// wantStep: what a world, which is begun twice, becomes by an event; or an error, and no world.
func wantStep(t *testing.T, name string, begin func() api.World, e api.Event, change func(*api.World) api.Errno) {
	t.Helper()
	w := begin()
	err := change(&w)
	if err != api.OK {
		w = api.World{}
	}
	got, is := world.Step(begin(), e)
	want(t, name, shown(got, is), shown(w, err))
	if is == api.OK {
		want(t, name+", Check", shown(world.Check(got)), shown(api.OK))
	}
}

// wantNo: an event has this error.
func wantNo(t *testing.T, name string, w api.World, e api.Event, err api.Errno) {
	t.Helper()
	wantStep(t, name, func() api.World { return w }, e, func(*api.World) api.Errno { return err })
}

func TestK2Edit(t *testing.T) {
	l := brief.Changes("x=9 n= +e -d -x d/y>y d>x n/x=1 +d -n d/y/z=1 x>x")
	l = append(l, api.Change{Kind: 5, Path: "x", Base: api.Any}, api.Change{Kind: api.ChangeWrite, Path: "x"}, api.Change{Kind: api.ChangeWrite, Path: "x", Text: strings.Repeat("x", 301), Base: api.Any})
	for _, x := range l {
		for i := range 4 {
			wantStep(t, fmt.Sprint(i, x), sample, api.Event{Kind: api.EventEdit, Which: i, Change: x}, func(w *api.World) (err api.Errno) {
				w.Clients[i], err = client.Edit(w.Clients[i], x)
				return err
			})
		}
	}
}

func TestK2Fetch(t *testing.T) {
	for i, cursor := range []int{2, 1, 0, 0} {
		wantStep(t, fmt.Sprint("client ", i), sample, api.Event{Kind: api.EventFetch, Which: i}, func(w *api.World) api.Errno {
			w.Letters = append(w.Letters, request(i, api.Request{Kind: api.AskPage, Who: w.Clients[i].Who, Folder: "f", Number: cursor}))
			return api.OK
		})
	}
}

func TestK2Send(t *testing.T) {
	wantStep(t, "b, which changed something", sample, api.Event{Kind: api.EventSend, Which: 1}, func(w *api.World) api.Errno {
		l := brief.Based(brief.Changes("d=b x=b"), 1)
		b := &w.Clients[1]
		b.Keys, b.Key, b.Asked = 2, "b-2", l
		w.Letters = append(w.Letters, request(1, api.Request{Kind: api.AskCommit, Who: "b", Folder: "f", Key: "b-2", Changes: l}))
		return api.OK
	})
	wantStep(t, "z, which asked already", sample, api.Event{Kind: api.EventSend, Which: 3}, func(w *api.World) api.Errno {
		l := brief.Based(brief.Changes("s=z"), 0)
		w.Letters = append(w.Letters, request(3, api.Request{Kind: api.AskCommit, Who: "z", Folder: "f", Key: "z-1", Changes: l}))
		return api.OK
	})
	wantNo(t, "a, which changed nothing", sample(), api.Event{Kind: api.EventSend}, api.ErrNone)
	wantNo(t, "v, which knows nothing", sample(), api.Event{Kind: api.EventSend, Which: 2}, api.ErrNone)
}

// K2: of EventFetch and EventSend those of the calls, ErrNone, and ErrMany, in this order.
func TestK2AskErrors(t *testing.T) {
	asks := func(x api.Change) func(*api.World) {
		return func(w *api.World) { w.Clients[3].Asked = []api.Change{x} }
	}
	keys := func(w *api.World) { w.Clients[1].Keys = api.MaxVersion }
	for _, x := range []struct {
		name   string
		change func(*api.World)
		which  int
		err    api.Errno
	}{
		{"keys", keys, 1, api.ErrRange},
		{"keys, crowded", func(w *api.World) { keys(w); crowded(w) }, 1, api.ErrRange},
		{"a number too great for a text", asks(api.Change{Base: api.MaxTime + 1}), 3, api.ErrRange},
		{"a number too great for a text, crowded", func(w *api.World) { asks(api.Change{Base: api.MaxTime + 1})(w); crowded(w) }, 3, api.ErrRange},
		{"a text too long for a text", asks(api.Change{Text: strings.Repeat("x", 1001)}), 3, api.ErrMany},
		{"nothing, crowded", crowded, 0, api.ErrNone},
		{"crowded", crowded, 1, api.ErrMany},
		{"crowded, and asked already", crowded, 3, api.ErrMany},
		{"nobody, crowded", crowded, 4, api.ErrNone},
	} {
		wantNo(t, x.name, with(x.change), api.Event{Kind: api.EventSend, Which: x.which}, x.err)
	}
	wantNo(t, "fetch, crowded", with(crowded), api.Event{Kind: api.EventFetch}, api.ErrMany)
	wantNo(t, "fetch, nobody, crowded", with(crowded), api.Event{Kind: api.EventFetch, Which: -1}, api.ErrNone)
	almost := func() api.World { return with(func(w *api.World) { crowded(w); w.Letters = w.Letters[1:] }) }
	wantStep(t, "the last one", almost, api.Event{Kind: api.EventFetch}, func(w *api.World) api.Errno {
		w.Letters = append(w.Letters, request(0, api.Request{Kind: api.AskPage, Who: "a", Folder: "f", Number: 2}))
		return api.OK
	})
}

func TestK2Serve(t *testing.T) {
	for _, i := range []int{pageAsked, asked} {
		wantStep(t, fmt.Sprint("letter ", i), sample, api.Event{Kind: api.EventServe, Which: i}, func(w *api.World) (err api.Errno) {
			w.Letters[i].Answer = true
			w.Hub, w.Letters[i].Text, err = hub.Text(w.Hub, w.Letters[i].Text)
			return err
		})
	}
	for _, i := range []int{pageTold, deniedTold, told, lateTold} {
		wantNo(t, fmt.Sprint("answer ", i), sample(), api.Event{Kind: api.EventServe, Which: i}, api.ErrState)
	}
	w, _ := world.Step(sample(), api.Event{Kind: api.EventServe, Which: asked})
	want(t, "the hub's tree", shown(hub.Tree(w.Hub, "f")), shown(append(whole()[:2], slices.Concat(brief.Entries(3, "n=1"), brief.Entries(1, "x=1"))...), api.OK))
	want(t, "the answer", shown(w.Letters[asked]), shown(answer(1, api.AskCommit, api.Answer{Number: 3})))
}

// K2: whatever a letter asks for, its Kind stays what it was.
func TestK2ServeAny(t *testing.T) {
	for _, x := range []struct {
		name string
		r    api.Request
		a    api.Answer
	}{
		{"no kind", api.Request{Kind: 99}, api.Answer{Err: api.ErrKind}},
		{"no who", api.Request{Kind: api.AskPage}, api.Answer{Err: api.ErrForm}},
		{"no right", api.Request{Kind: api.AskPage, Who: "z", Folder: "f"}, api.Answer{Err: api.ErrDenied}},
		{"another one's", api.Request{Kind: api.AskMake, Who: "q", Folder: "e"}, api.Answer{}},
		{"an upload", api.Request{Kind: api.AskQuery, Who: "o", Number: 1}, api.Answer{Number: 2}},
	} {
		begin := func() api.World {
			return with(func(w *api.World) { w.Letters[pageAsked].Text = request(0, x.r).Text })
		}
		wantStep(t, x.name, begin, api.Event{Kind: api.EventServe, Which: pageAsked}, func(w *api.World) api.Errno {
			w.Hub, _, _ = hub.Serve(w.Hub, x.r)
			w.Letters[pageAsked] = answer(1, api.AskPage, x.a)
			return api.OK
		})
	}
}

func TestK2Hear(t *testing.T) {
	for _, i := range []int{pageTold, told} {
		wantStep(t, fmt.Sprint("letter ", i), sample, api.Event{Kind: api.EventHear, Which: i}, func(w *api.World) (err api.Errno) {
			l := w.Letters[i]
			a, _ := wire.Told(l.Text)
			w.Clients[l.From], _, err = client.Hear(w.Clients[l.From], l.Kind, a)
			w.Letters = slices.Delete(w.Letters, i, i+1)
			return err
		})
	}
	w, _ := world.Step(sample(), api.Event{Kind: api.EventHear, Which: pageTold})
	want(t, "v", shown(w.Clients[2]), shown(api.Client{Who: "v", Folder: "f", Base: whole(), Cursor: 2, Mine: whole()}))
	w, _ = world.Step(sample(), api.Event{Kind: api.EventHear, Which: told})
	want(t, "z", shown(w.Clients[3]), shown(api.Client{Who: "z", Folder: "f", Mine: brief.Entries(1, "s=z"), Keys: 1}))
	for _, i := range []int{pageAsked, asked} {
		wantNo(t, fmt.Sprint("request ", i), sample(), api.Event{Kind: api.EventHear, Which: i}, api.ErrState)
	}
}

// K2: if Hear has an error the client stays as it is, and the letter is gone all the same.
func TestK2HearErrors(t *testing.T) {
	on := func(n int, l ...string) api.Page {
		return api.Page{Commits: brief.Commits(n, l...), Cursor: n - 1 + len(l)}
	}
	for _, a := range []api.Answer{
		{Err: api.ErrDenied}, {Err: 99, Page: on(3, "k3 x=3")}, {Page: on(2, "k2 x=3")}, {Page: on(4, "k4 x=3")}, {Page: on(3, "k3 -n")}, {Page: api.Page{Cursor: 2, Tree: whole()}},
		{Page: api.Page{Reset: true, Cursor: 1}}, {Page: api.Page{Reset: true, Cursor: 2, More: true}}, {Page: api.Page{Reset: true, Cursor: 2, Tree: brief.Entries(0, "x=")}},
	} {
		l := answer(0, api.AskPage, a)
		begin := func() api.World {
			return with(func(w *api.World) { w.Letters = slices.Insert(w.Letters, 2, l) })
		}
		wantStep(t, fmt.Sprint(a), begin, api.Event{Kind: api.EventHear, Which: 2}, func(w *api.World) api.Errno {
			w.Letters = slices.Delete(w.Letters, 2, 3)
			return api.OK
		})
	}
}

func TestK2LoseTwice(t *testing.T) {
	for i := range sample().Letters {
		wantStep(t, fmt.Sprint("lost ", i), sample, api.Event{Kind: api.EventLose, Which: i}, func(w *api.World) api.Errno {
			w.Letters = slices.Delete(w.Letters, i, i+1)
			return api.OK
		})
		wantStep(t, fmt.Sprint("twice ", i), sample, api.Event{Kind: api.EventTwice, Which: i}, func(w *api.World) api.Errno {
			w.Letters = append(w.Letters, w.Letters[i])
			return api.OK
		})
	}
	full := func() api.World { return with(crowded) }
	wantNo(t, "twice, crowded", full(), api.Event{Kind: api.EventTwice, Which: 29}, api.ErrMany)
	wantNo(t, "twice, no such letter, crowded", full(), api.Event{Kind: api.EventTwice, Which: 30}, api.ErrNone)
	wantStep(t, "lost, crowded", full, api.Event{Kind: api.EventLose, Which: 29}, func(w *api.World) api.Errno {
		w.Letters = w.Letters[:29]
		return api.OK
	})
}

func TestK2Tick(t *testing.T) {
	for _, n := range []int{0, 1, 100, api.MaxTime - 5} {
		wantStep(t, fmt.Sprint(n), sample, api.Event{Kind: api.EventTick, Which: n}, func(w *api.World) api.Errno {
			w.Hub.Now += n
			return api.OK
		})
	}
	for _, n := range []int{-1, api.MaxTime - 4, least, most} {
		wantNo(t, fmt.Sprint(n), sample(), api.Event{Kind: api.EventTick, Which: n}, api.ErrRange)
	}
}

// K2: the answer is lost; one that has an error is no error, and changes nothing.
func TestK2Other(t *testing.T) {
	for _, r := range []api.Request{
		{}, {Kind: 9, Who: "o"}, {Kind: api.AskPage, Who: "o", Folder: "f"},
		{Kind: api.AskCommit, Who: "o", Folder: "f", Key: "o1", Changes: brief.Changes("-x")},
		{Kind: api.AskCommit, Who: "v", Folder: "f", Key: "v1", Changes: brief.Changes("-x")},
		{Kind: api.AskGrant, Who: "o", Folder: "f", Name: "z", Number: api.RightView},
		{Kind: api.AskMake, Who: "q", Folder: "e"}, {Kind: api.AskOpen, Who: "q", Number: 20}, {Kind: api.AskOpen, Who: "q", Number: 21},
		{Kind: api.AskFinish, Who: "o", Folder: "f", Name: "up", Number: 1, Key: "o1", Base: 0},
	} {
		for _, which := range []int{0, -1, most} { // it means nothing here
			wantStep(t, fmt.Sprint(r), sample, api.Event{Kind: api.EventOther, Which: which, Request: r}, func(w *api.World) (err api.Errno) {
				w.Hub, _, err = hub.Serve(w.Hub, r)
				return err
			})
		}
	}
}

func TestK2NoSuch(t *testing.T) {
	for _, kind := range []int{0, -1, 10, least, most} {
		for _, which := range []int{0, -1} {
			wantNo(t, fmt.Sprint("kind ", kind), sample(), api.Event{Kind: kind, Which: which}, api.ErrKind)
		}
	}
	for kind, n := range map[int]int{api.EventEdit: 4, api.EventFetch: 4, api.EventSend: 4, api.EventServe: 6, api.EventHear: 6, api.EventLose: 6, api.EventTwice: 6} {
		for _, which := range []int{-1, n, n + 1, least, most} {
			wantNo(t, fmt.Sprint("kind ", kind, ", which ", which), sample(), api.Event{Kind: kind, Which: which}, api.ErrNone)
		}
	}
}
