// Package memory_test holds the upper layers to P2 and P3: what is handed in is only read, what comes out is the caller's, and the same comes again.
package memory_test

import (
	"fmt"
	"reflect"
	"testing"

	"tetherpost/api"
	"tetherpost/brief"
	"tetherpost/client"
	"tetherpost/hub"
	"tetherpost/wire"
	"tetherpost/world"
)

// lists in a value, and in one another, each with the spare room behind it.
func lists(v reflect.Value) []reflect.Value {
	var out []reflect.Value
	switch v.Kind() {
	case reflect.Interface:
		return lists(v.Elem())
	case reflect.Struct:
		for i := range v.NumField() {
			out = append(out, lists(v.Field(i))...)
		}
	case reflect.Slice:
		if v.Cap() > 0 {
			v = v.Slice(0, v.Cap())
			out = append(out, v)
		}
		for i := range v.Len() {
			out = append(out, lists(v.Index(i))...)
		}
	}
	return out
}

// widen each list of a value: there is spare room behind it then.
func widen(v reflect.Value) {
	switch v.Kind() {
	case reflect.Struct:
		for i := range v.NumField() {
			widen(v.Field(i))
		}
	case reflect.Slice:
		for i := range v.Len() {
			widen(v.Index(i))
		}
		wide := reflect.MakeSlice(v.Type(), v.Len()+3, v.Len()+3)
		reflect.Copy(wide, v)
		v.Set(wide.Slice(0, v.Len()))
	}
}

// spread out: all lists of what was handed in, with their spare room.
func spread(in []any) string {
	var s string
	for _, l := range lists(reflect.ValueOf(in)) {
		s += fmt.Sprintf("%v\n", l)
	}
	return s
}

// wantOwn: a call only reads what it is handed, answers alike again, and no two lists that came out, or were handed in, share memory. (What is handed in has spare room behind its lists, which the call must leave alone, too.)
func wantOwn(t *testing.T, name string, in []any, call func() []any) {
	t.Helper()
	was := spread(in)
	out := call()
	first := fmt.Sprintf("%+v", out)
	all := append(lists(reflect.ValueOf(in)), lists(reflect.ValueOf(out))...)
	for i, a := range all {
		for _, b := range all[:i] {
			if a.Pointer() < end(b) && b.Pointer() < end(a) {
				t.Fatalf("%s: %v and %v share memory", name, a, b)
			}
		}
	}
	for _, l := range lists(reflect.ValueOf(out)) {
		l.Clear()
	}
	if now := spread(in); now != was {
		t.Fatalf("%s: %s, and it was %s", name, now, was)
	}
	if again := fmt.Sprintf("%+v", call()); again != first {
		t.Fatalf("%s: %s, and it was %s", name, again, first)
	}
}

// end of a list in memory.
func end(v reflect.Value) uintptr { return v.Pointer() + uintptr(v.Cap())*v.Type().Elem().Size() }

// wide value: widened, by itself.
func wide[T any](v T) T {
	widen(reflect.ValueOf(&v).Elem())
	return v
}

// shared hub: f is a's, and b may edit it; g is b's, and its beginning was forgotten; of b's uploads one is over, and one could finish.
func shared() api.Hub {
	return wide(api.Hub{
		Folders: []api.Shared{
			{Name: "f", Journal: brief.Journal(1, nil, "k1 x=1", "k2 +d d/y=2")},
			{Name: "g", Journal: brief.Journal(7, brief.Entries(3, "w=3", "z=3"), "k7 z=7")},
		},
		Grants:  brief.Grants("f:a3 f:b2 g:b3"),
		Uploads: api.Uploads{Sessions: brief.Sessions("1 b over 4 4", "2 b abcd 4 9", "3 b ab 5 9"), Next: 6, Lasts: 10, Room: 20},
		Now:     5,
	})
}

func requests() []api.Request {
	return []api.Request{
		{}, {Kind: api.AskMake, Who: "a", Folder: "e"}, {Kind: api.AskMake, Who: "a", Folder: "h"}, {Kind: api.AskMake, Who: "a", Folder: "f"},
		{Kind: api.AskGrant, Who: "a", Folder: "f", Name: "c", Number: 1}, {Kind: api.AskGrant, Who: "a", Folder: "f", Name: "b"}, {Kind: api.AskGrant, Who: "a", Folder: "g", Name: "b"},
		{Kind: api.AskCommit, Who: "a", Folder: "f", Key: "k3", Changes: brief.Changes("x=3 -d")}, {Kind: api.AskCommit, Who: "a", Folder: "f", Key: "k1", Changes: brief.Changes("x=3")}, {Kind: api.AskCommit, Who: "b", Folder: "g", Key: "k3", Changes: brief.Changes("-q")},
		{Kind: api.AskPage, Who: "a", Folder: "f"}, {Kind: api.AskPage, Who: "a", Folder: "f", Number: 1}, {Kind: api.AskPage, Who: "b", Folder: "g"}, {Kind: api.AskPage, Who: "b", Folder: "g", Number: 6},
		{Kind: api.AskOpen, Who: "a", Number: 7}, {Kind: api.AskAppend, Who: "b", Number: 3, Offset: 2, Text: "cd"}, {Kind: api.AskAppend, Who: "b", Number: 3, Text: "ab"}, {Kind: api.AskQuery, Who: "b", Number: 2},
		{Kind: api.AskFinish, Who: "b", Number: 2, Folder: "f", Name: "up", Key: "k3"}, {Kind: api.AskFinish, Who: "b", Number: 2, Folder: "f", Name: "up", Key: "k1"}, {Kind: api.AskFinish, Who: "b", Number: 2, Folder: "f", Name: "x/up", Key: "k3"},
	}
}

func TestP2P3Hub(t *testing.T) {
	h := shared()
	if hub.Check(h) != api.OK {
		t.Fatalf("no hub: %d", hub.Check(h))
	}
	for _, r := range wide(requests()) {
		wantOwn(t, fmt.Sprintf("%+v", r), []any{h, r}, func() []any { h, a, err := hub.Serve(h, r); return []any{h, a, err} })
	}
	for _, s := range []string{"", "2;1;a1;f0;0;0;1;0;0;0;", "8;1;a1;e0;0;0;0;0;0;0;"} {
		wantOwn(t, s, []any{h}, func() []any { h, s, err := hub.Text(h, s); return []any{h, s, err} })
	}
	for _, s := range []string{"f", "g", "q"} {
		wantOwn(t, s, []any{h}, func() []any { l, err := hub.Tree(h, s); return []any{l, err} })
	}
	wantOwn(t, "Tick", []any{h}, func() []any { h, err := hub.Tick(h, 1); return []any{h, err} })
}

// clients: one that changed something, one that asked for that, one that did neither, and one that would have more to ask for than it may.
func clients() []api.Client {
	c := api.Client{Who: "a", Folder: "f", Cursor: 2, Keys: 1, Base: brief.Entries(2, "d", "d/y=2", "x=1"), Mine: brief.Entries(1, "d", "d/y=3", "n=4", "x=1")}
	asked, idle, many := c, c, c
	asked.Key, asked.Asked = "a-1", brief.Changes("d/y=3")
	idle.Mine = idle.Base
	many.Mine = nil
	for i := range 40 {
		many.Mine = append(many.Mine, brief.Entries(1, fmt.Sprintf("p%d=", 10+i))...)
	}
	return wide([]api.Client{c, asked, idle, many})
}

func answers() []api.Answer {
	on := func(l ...string) api.Page { return api.Page{Commits: brief.Commits(3, l...), Cursor: 2 + len(l)} }
	return wide([]api.Answer{
		{}, {Err: api.ErrDenied}, {Page: on()}, {Page: on("k3 x=3", "k4 d>e")}, {Page: on("k3 d/y=7 n=8 p10=9")},
		{Page: api.Page{Reset: true, Tree: brief.Entries(9, "n=8", "p10=9"), Cursor: 9}},
	})
}

func TestP2P3Client(t *testing.T) {
	for i, c := range clients() {
		if client.Check(c) != api.OK {
			t.Fatalf("%d: no client: %d", i, client.Check(c))
		}
		for _, x := range brief.Changes("x=9 -d d>e -q") {
			wantOwn(t, fmt.Sprint(i, x), []any{c}, func() []any { d, err := client.Edit(c, x); return []any{d, err} })
		}
		wantOwn(t, fmt.Sprint(i, ": Fetch"), []any{c}, func() []any { r, err := client.Fetch(c); return []any{r, err} })
		wantOwn(t, fmt.Sprint(i, ": Send"), []any{c}, func() []any { d, r, ok, err := client.Send(c); return []any{d, r, ok, err} })
		for _, a := range answers() {
			for _, kind := range []int{api.AskPage, api.AskCommit, api.AskMake} {
				wantOwn(t, fmt.Sprint(i, a), []any{c, a}, func() []any { d, l, err := client.Hear(c, kind, a); return []any{d, l, err} })
			}
		}
	}
}

// worldly: the clients, each of another name, with letters of each on their way.
func worldly() api.World {
	w := api.World{Hub: shared(), Clients: clients()}
	for i, who := range []string{"a", "b", "c", "d"} {
		w.Clients[i].Who = who
		ask, _ := wire.Ask(api.Request{Kind: api.AskCommit, Who: who, Folder: "f", Key: "k3", Changes: brief.Changes("n=9")})
		w.Letters = append(w.Letters, api.Letter{From: i, Kind: api.AskCommit, Text: ask})
		for _, a := range answers() {
			tell, _ := wire.Tell(a)
			w.Letters = append(w.Letters, api.Letter{From: i, Kind: api.AskPage, Answer: true, Text: tell})
		}
	}
	return wide(w)
}

func events(w api.World) []api.Event {
	out := []api.Event{{}, {Kind: api.EventTick, Which: 1}, {Kind: api.EventTick, Which: -1}}
	for i := range w.Clients {
		for _, x := range brief.Changes("x=9 -d d>e -q") {
			out = append(out, api.Event{Kind: api.EventEdit, Which: i, Change: x})
		}
		out = append(out, api.Event{Kind: api.EventFetch, Which: i}, api.Event{Kind: api.EventSend, Which: i})
	}
	for i := range w.Letters {
		for kind := api.EventServe; kind <= api.EventTwice; kind++ {
			out = append(out, api.Event{Kind: kind, Which: i})
		}
	}
	for _, r := range requests() {
		out = append(out, api.Event{Kind: api.EventOther, Request: r})
	}
	return wide(out)
}

func TestP2P3World(t *testing.T) {
	w := worldly()
	if world.Check(w) != api.OK {
		t.Fatalf("no world: %d", world.Check(w))
	}
	for _, e := range events(w) {
		wantOwn(t, fmt.Sprintf("%+v", e), []any{w, e}, func() []any { w, err := world.Step(w, e); return []any{w, err} })
	}
	wantOwn(t, "New", []any{w}, func() []any { w, err := world.New(w.Hub, w.Clients); return []any{w, err} })
	wantOwn(t, "Check", []any{w}, func() []any { return []any{world.Check(w)} })
	wantOwn(t, "Settled", []any{w}, func() []any { ok, err := world.Settled(w); return []any{ok, err} })
}
