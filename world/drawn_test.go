package world_test

import (
	"fmt"
	"slices"
	"testing"

	"tetherpost/api"
	"tetherpost/brief"
	"tetherpost/client"
	"tetherpost/hub"
	"tetherpost/world"
)

// draw numbers, the same each time.
type draw uint64

func (d *draw) n(n int) int {
	*d = *d*6364136223846793005 + 1442695040888963407
	return int(uint64(*d) >> 33 % uint64(n))
}

func (d *draw) of(l ...string) string { return l[d.n(len(l))] }

// game: a world that is played, with what the hub's tree of f was at each cursor.
type game struct {
	*testing.T
	draw
	w     api.World
	trees map[int][]api.Entry
	met   map[string]int // what was met, and how often
}

// Places of the clients of a game, who are a, b, v and z: all are of f.
const (
	first    = iota // may edit it
	second          // may edit it, too
	viewer          // may only look
	stranger        // has no right there
)

func begun(t *testing.T, seed int) *game {
	h, _ := hub.New(10, 50)
	for _, r := range []api.Request{
		{Kind: api.AskMake, Who: "o", Folder: "f"},
		{Kind: api.AskGrant, Who: "o", Folder: "f", Name: "a", Number: api.RightEdit},
		{Kind: api.AskGrant, Who: "o", Folder: "f", Name: "b", Number: api.RightEdit},
		{Kind: api.AskGrant, Who: "o", Folder: "f", Name: "v", Number: api.RightView},
	} {
		h, _, _ = hub.Serve(h, r)
	}
	var clients []api.Client
	for _, who := range []string{"a", "b", "v", "z"} {
		c, _ := client.New(who, "f")
		clients = append(clients, c)
	}
	w, err := world.New(h, clients)
	if err != api.OK {
		t.Fatalf("no world: %d", err)
	}
	return &game{T: t, draw: draw(seed), w: w, trees: map[int][]api.Entry{0: nil}, met: map[string]int{}}
}

// last number that the journal of f has.
func last(w api.World) int {
	j := w.Hub.Folders[0].Journal
	return j.First + len(j.Commits) - 1
}

// step of the game: with an error there is no world, and else all that must hold whatever happens does.
func (g *game) step(e api.Event) api.Errno {
	g.Helper()
	w, err := world.Step(g.w, e)
	if err != api.OK {
		want(g.T, fmt.Sprint(e), shown(w), shown(api.World{}))
		return err
	}
	g.wantDenied(e, w)
	g.note(w)
	g.w = w
	t, _ := hub.Tree(w.Hub, "f")
	if was, is := g.trees[last(w)]; is && !slices.Equal(was, t) {
		g.Fatalf("%+v: at %d there is %v, and it was %v", e, last(w), t, was)
	}
	g.trees[last(w)] = t
	g.wantRight()
	return api.OK
}

// note what was met.
func (g *game) note(next api.World) {
	if last(next) > last(g.w) {
		g.met["commit"]++
	}
	for i, c := range next.Clients {
		if c.Cursor > g.w.Clients[i].Cursor+api.MaxPage { // more than a page has but for a Reset
			g.met["reset"]++
		}
	}
}

// wantRight: the world passes Check; each client knows what the hub's tree was at its cursor; and no key is there twice.
func (g *game) wantRight() {
	g.Helper()
	if err := world.Check(g.w); err != api.OK {
		g.Fatalf("no world: %d: %+v", err, g.w)
	}
	for _, c := range g.w.Clients {
		if t, is := g.trees[c.Cursor]; !is || !slices.Equal(c.Base, t) {
			g.Fatalf("%s at %d knows %v, must be %v", c.Who, c.Cursor, c.Base, t)
		}
	}
	keys := map[string]int{}
	for _, c := range g.w.Hub.Folders[0].Journal.Commits {
		if keys[c.Key]++; keys[c.Key] > 1 {
			g.Fatalf("%s is there twice", c.Key)
		}
	}
}

// wantDenied: neither what the stranger sends nor what the viewer sends changes anything at the hub; and the stranger hears nothing.
func (g *game) wantDenied(e api.Event, next api.World) {
	g.Helper()
	if e.Kind == api.EventServe && g.w.Letters[e.Which].From >= viewer {
		want(g.T, fmt.Sprint(e), shown(next.Hub), shown(g.w.Hub))
		g.met["denied"]++
	}
	if c := next.Clients[stranger]; len(c.Base) > 0 || c.Cursor > 0 {
		g.Fatalf("the stranger heard of %v", c.Base)
	}
}

// edit that somebody could make.
func (g *game) edit() api.Change {
	if g.n(3) == 0 {
		return brief.Changes(g.of("+d", "+e", "-x", "-d", "-e", "-d/x", "x>d/x", "d>e", "e/x>x", "y>z"))[0]
	}
	return brief.Changes(g.of("x=", "y=", "d/x=", "d/y=", "e=", "e/x=") + g.of("1", "2", "3", "4", "5", "6"))[0]
}

// event of whatever kind, mostly one that could be. Those who are there seldom miss much.
func (g *game) event(seldom bool) api.Event {
	who := g.n(4)
	if seldom && g.n(20) > 0 {
		who = first
	}
	e := api.Event{Kind: 1 + g.n(9), Which: who}
	if g.n(3) == 0 {
		e.Kind = api.EventEdit
	}
	switch e.Kind {
	case api.EventEdit:
		e.Change = g.edit()
	case api.EventServe, api.EventHear, api.EventLose, api.EventTwice:
		e.Which = g.n(len(g.w.Letters) + 1)
	case api.EventOther:
		e.Request = api.Request{Kind: api.AskCommit, Who: "o", Folder: "f", Key: fmt.Sprint("o-", g.n(1000)), Changes: []api.Change{g.edit()}}
	}
	return e
}

// deliver the newest letter there and back.
func (g *game) deliver() {
	g.Helper()
	n := len(g.w.Letters) - 1
	for _, kind := range []int{api.EventServe, api.EventHear} {
		if err := g.step(api.Event{Kind: kind, Which: n}); err != api.OK {
			g.Fatalf("letter %d: %d", n, err)
		}
	}
}

// fetch until a client has all.
func (g *game) fetch(i int) {
	g.Helper()
	for g.w.Clients[i].Cursor < last(g.w) {
		was := g.w.Clients[i].Cursor
		if err := g.step(api.Event{Kind: api.EventFetch, Which: i}); err != api.OK {
			g.Fatalf("fetch: %d", err)
		}
		g.deliver()
		if g.w.Clients[i].Cursor <= was {
			g.Fatalf("%+v does not go on", g.w.Clients[i])
		}
	}
}

// send until a client has nothing to ask for any more. (It knows what came of that only when it asks.)
func (g *game) send(i int) {
	g.Helper()
	for range 20 {
		err := g.step(api.Event{Kind: api.EventSend, Which: i})
		if err == api.ErrNone {
			return
		}
		if err != api.OK {
			g.Fatalf("send: %d", err)
		}
		g.deliver()
		g.fetch(i)
	}
	g.Fatalf("%+v never has all sent", g.w.Clients[i])
}

// settle: nobody changes anything any more, and each in turn asks until it has all, sends all, and asks again, twice. What is on its way comes no more.
func (g *game) settle() {
	g.Helper()
	for len(g.w.Letters) > 0 {
		g.step(api.Event{Kind: api.EventLose})
	}
	if ok, _ := world.Settled(g.w); !ok {
		g.met["unsettled"]++
	}
	for range 2 {
		for _, i := range []int{first, second} {
			g.fetch(i)
			g.send(i)
			g.fetch(i)
		}
		g.fetch(viewer)
	}
	if ok, err := world.Settled(g.w); !ok || err != api.OK {
		g.Fatalf("not settled: %d: %+v", err, g.w)
	}
}

// K4: whatever gets lost, comes twice or late, a client's tree at its cursor is what the hub's was there, and no key is in a journal twice; and as soon as nobody changes anything all is settled.
func TestK4Drawn(t *testing.T) {
	met := map[string]int{}
	for seed := range 24 {
		g := begun(t, seed)
		g.met = met
		for range 300 + seed%2*900 {
			e := g.event(seed%2 == 1)
			if e.Kind == api.EventEdit && e.Which == viewer { // who may only look can send nothing
				continue
			}
			if g.step(e) == api.OK {
				met[fmt.Sprint("event ", e.Kind)]++
			}
		}
		g.settle()
	}
	for _, x := range []string{"commit", "denied", "reset", "unsettled"} {
		if met[x] < 10 {
			t.Errorf("%s: %d times: too few", x, met[x])
		}
	}
	for kind := api.EventEdit; kind <= api.EventOther; kind++ {
		if n := met[fmt.Sprint("event ", kind)]; n < 100 {
			t.Errorf("event %d: %d times: too few", kind, n)
		}
	}
}

// K4: more changes than a commit may have, sent one commit after the other.
func TestK4Many(t *testing.T) {
	g := begun(t, 1)
	for n := range api.MaxEntries {
		g.step(api.Event{Kind: api.EventEdit, Which: n % 2, Change: brief.Changes(fmt.Sprintf("p%d=%d", 10+n, n))[0]})
	}
	g.settle()
	if c := g.w.Clients[viewer]; len(c.Mine) != api.MaxEntries || c.Cursor != 4 {
		t.Errorf("the viewer at %d shows %d entries", c.Cursor, len(c.Mine))
	}
}

// K4: each text that somebody wrote is there for all at the end, at its path or aside.
func TestK4Texts(t *testing.T) {
	for seed := range 10 {
		g := begun(t, seed)
		g.step(api.Event{Kind: api.EventEdit, Which: first, Change: brief.Changes("+d")[0]})
		g.settle()
		texts := []string{}
		for _, p := range []string{"x", "y", "d/x", "n.txt"} {
			for _, i := range []int{first, second} {
				text := fmt.Sprint("by ", i, " at ", p)
				texts = append(texts, text)
				g.step(api.Event{Kind: api.EventEdit, Which: i, Change: api.Change{Kind: api.ChangeWrite, Path: p, Text: text, Base: api.Any}})
			}
		}
		for range 200 {
			if e := g.event(false); e.Kind != api.EventEdit && e.Kind != api.EventOther {
				g.step(e)
			}
		}
		g.settle()
		for _, c := range g.w.Clients[:stranger] {
			for _, text := range texts {
				if !slices.ContainsFunc(c.Mine, func(e api.Entry) bool { return e.Text == text }) {
					t.Fatalf("%d: %s shows nothing that is %s: %v", seed, c.Who, text, c.Mine)
				}
			}
		}
	}
}

// K4: what was asked for by one key is in a journal once, however often it comes, and the answer is the same.
func TestK4Twice(t *testing.T) {
	g := begun(t, 1)
	g.step(api.Event{Kind: api.EventEdit, Which: first, Change: brief.Changes("x=1")[0]})
	g.step(api.Event{Kind: api.EventSend, Which: first})
	for range 5 {
		g.step(api.Event{Kind: api.EventTwice})
		g.step(api.Event{Kind: api.EventSend, Which: first})
	}
	for i := range g.w.Letters {
		g.step(api.Event{Kind: api.EventServe, Which: i})
		want(t, fmt.Sprint("letter ", i), shown(g.w.Letters[i]), shown(answer(first, api.AskCommit, api.Answer{Number: 1})))
	}
	if n := len(g.w.Letters); n != 11 || last(g.w) != 1 {
		t.Errorf("%d letters, and %d commits", n, last(g.w))
	}
	for range 11 {
		g.step(api.Event{Kind: api.EventHear})
	}
	want(t, "who asked", shown(g.w.Clients[first]), shown(api.Client{Who: "a", Folder: "f", Mine: brief.Entries(1, "x=1"), Keys: 1}))
	g.settle()
	want(t, "f", shown(last(g.w), g.w.Clients[second].Mine), shown(1, brief.Entries(1, "x=1")))
}

// K4: who has no right any more hears nothing, changes nothing, and is passed over; who has it again comes to what there is.
func TestK4RightTaken(t *testing.T) {
	g := begun(t, 1)
	give := func(right int) {
		g.step(api.Event{Kind: api.EventOther, Request: api.Request{Kind: api.AskGrant, Who: "o", Folder: "f", Name: "b", Number: right}})
	}
	g.step(api.Event{Kind: api.EventEdit, Which: first, Change: brief.Changes("x=1")[0]})
	g.settle()
	give(api.RightNone)
	g.step(api.Event{Kind: api.EventEdit, Which: first, Change: brief.Changes("x=2")[0]})
	g.send(first)
	g.fetch(viewer)
	g.step(api.Event{Kind: api.EventEdit, Which: second, Change: brief.Changes("y=3")[0]})
	for _, kind := range []int{api.EventFetch, api.EventSend} {
		was := shown(g.w.Hub, g.w.Clients[second].Base, g.w.Clients[second].Cursor)
		g.step(api.Event{Kind: kind, Which: second})
		g.deliver()
		want(t, fmt.Sprint("event ", kind), shown(g.w.Hub, g.w.Clients[second].Base, g.w.Clients[second].Cursor), was)
	}
	ok, err := world.Settled(g.w)
	want(t, "without a right", shown(ok, err), shown(true, api.OK))
	give(api.RightEdit)
	ok, err = world.Settled(g.w)
	want(t, "with a right", shown(ok, err), shown(false, api.OK))
	g.settle()
	want(t, "f", shown(g.w.Clients[viewer].Base), shown(slices.Concat(brief.Entries(2, "x=2"), brief.Entries(3, "y=3"))))
}

// P1: whatever comes, a call ends, and with an error there is no world.
func TestP1WhateverComes(t *testing.T) {
	g := begun(t, 1)
	number := func() int { return []int{least, -api.MaxTime, -1, 0, 1, 2, 5, 30, api.MaxTime, most}[g.n(10)] }
	text := func() string { return g.of("", "f", "o", "a", "x", "d/x", "\x00", "/", brief.Long, brief.Long+"n") }
	for range 3000 {
		change := api.Change{Kind: g.n(6), Path: text(), To: text(), Text: text(), Base: number()}
		e := api.Event{Kind: g.n(11), Which: number(), Change: change}
		e.Request = api.Request{Kind: g.n(10), Who: text(), Folder: text(), Name: text(), Key: text(), Text: text(), Number: number(), Offset: number(), Base: number(), Changes: []api.Change{change}}
		if g.n(2) == 0 {
			e.Which = g.n(4)
		}
		if e.Kind != api.EventTick { // so that there is time left
			g.step(e)
		}
	}
	for _, n := range []int{least, -1, most} {
		want(t, fmt.Sprint("tick ", n), shown(g.step(api.Event{Kind: api.EventTick, Which: n})), shown(api.ErrRange))
	}
}
