package client_test

import (
	"slices"
	"strings"
	"testing"

	"tetherpost/api"
	"tetherpost/client"
	"tetherpost/delta"
	"tetherpost/hub"
)

// draw numbers, the same each time.
type draw uint64

func (d *draw) n(n int) int {
	*d = *d*6364136223846793005 + 1442695040888963407
	return int(uint64(*d) >> 33 % uint64(n))
}

func (d *draw) of(l ...string) string { return l[d.n(len(l))] }

// party: clients of a hub, and what its tree was at each cursor.
type party struct {
	*testing.T
	h       api.Hub
	clients []api.Client
	trees   map[int][]api.Entry
	aside   int // how many files went aside
	resets  int // how many pages were a Reset
}

// meet: a and b share f, and may both edit.
func meet(t *testing.T) *party {
	p := &party{T: t, trees: map[int][]api.Entry{0: nil}}
	p.h, _ = hub.New(10, 50)
	p.ask(api.Request{Kind: api.AskMake, Who: "a", Folder: "f"})
	p.ask(api.Request{Kind: api.AskGrant, Who: "a", Folder: "f", Name: "b", Number: api.RightEdit})
	for _, who := range []string{"a", "b"} {
		c, _ := client.New(who, "f")
		p.clients = append(p.clients, c)
	}
	return p
}

// ask the hub, and note what its tree is then.
func (p *party) ask(r api.Request) api.Answer {
	h, a, err := hub.Serve(p.h, r)
	if err != api.OK {
		p.Fatalf("%+v: %d", r, err)
	}
	p.h = h
	j := h.Folders[0].Journal
	p.trees[j.First+len(j.Commits)-1], _ = hub.Tree(h, "f")
	return a
}

func (p *party) edit(i int, d *draw) {
	x := changes(d.of("x=", "y=", "d/x=", "d/y=", "e=", "e/x=") + d.of("1", "2", "3", "4", "5", "6"))[0]
	if d.n(2) == 0 {
		x = changes(d.of("+d", "+e", "-x", "-d", "-e", "-d/x", "x>d/x", "d>e", "e/x>x", "y>z"))[0]
	}
	if c, err := client.Edit(p.clients[i], x); err == api.OK {
		p.clients[i] = c
	}
}

// fetch pages until there are no more.
func (p *party) fetch(i int) {
	for more := true; more; {
		r, _ := client.Fetch(p.clients[i])
		a := p.ask(r)
		if err := p.hear(i, a); err != api.OK {
			p.Fatalf("%v: %+v: %d", p.clients[i], a, err)
		}
		more = a.Page.More
	}
}

// hear a page: it is what the hub says, and nothing that the client changed itself is lost.
func (p *party) hear(i int, a api.Answer) api.Errno {
	was := p.clients[i]
	c, copies, err := client.Hear(was, api.AskPage, a)
	if err != api.OK {
		return err
	}
	if !slices.Equal(c.Base, p.trees[c.Cursor]) || client.Check(c) != api.OK {
		p.Fatalf("at %d: %v, must be %v", c.Cursor, c.Base, p.trees[c.Cursor])
	}
	wantMine(p.T, was, c, copies)
	p.clients[i] = c
	p.aside += len(copies)
	if a.Page.Reset {
		p.resets++
	}
	return api.OK
}

// send what there is to ask for: some requests are lost, some answers, and some come twice.
func (p *party) send(i, fate int) {
	c, r, ok, _ := client.Send(p.clients[i])
	p.clients[i] = c
	if !ok || fate == 0 {
		return
	}
	a := p.ask(r)
	if fate == 1 {
		return
	}
	if fate == 2 {
		a = p.ask(r)
	}
	p.clients[i], _, _ = client.Hear(c, api.AskCommit, a)
}

// at a path of a tree, but for versions.
func at(t []api.Entry, path string) api.Entry {
	for _, e := range t {
		if e.Path == path {
			e.Version = 0
			return e
		}
	}
	return api.Entry{}
}

// wantMine: what a client did not change is as it knows it (but for folders that it needs, and for what went aside); what it changed is there, or aside.
func wantMine(t *testing.T, was, c api.Client, copies []api.Copy) {
	t.Helper()
	for _, e := range slices.Concat(was.Base, was.Mine, c.Base, c.Mine) {
		isAside := slices.ContainsFunc(copies, func(x api.Copy) bool { return x.At == e.Path })
		isParent := slices.ContainsFunc(c.Mine, func(x api.Entry) bool { return strings.HasPrefix(x.Path, e.Path+"/") })
		changed := at(was.Mine, e.Path) != at(was.Base, e.Path)
		if !changed && !isAside && !isParent && at(c.Mine, e.Path) != at(c.Base, e.Path) {
			t.Fatalf("%v became %v: %s", was, c, e.Path)
		}
		if m := at(was.Mine, e.Path); changed && m.Path != "" && !m.Folder && at(c.Mine, e.Path) != m && !wentAside(c.Mine, copies, m) {
			t.Fatalf("%v became %v: %s is lost", was, c, e.Path)
		}
	}
}

func wentAside(t []api.Entry, copies []api.Copy, e api.Entry) bool {
	return slices.ContainsFunc(copies, func(x api.Copy) bool { return x.Path == e.Path && at(t, x.At).Text == e.Text })
}

// J5: whatever two clients change, and whatever gets lost, what they show is what they know, but for what they changed; and as soon as nobody changes anything, both come to the same.
func TestJ5Drawn(t *testing.T) {
	aside, resets := 0, 0
	for seed := range 30 {
		d, p := draw(seed), meet(t)
		var late []api.Answer
		for range 100 + seed%2*900 {
			i := d.n(2)
			if seed%2 == 1 { // b is seldom there, and so much is forgotten by then
				i = d.n(40) / 39
			}
			switch d.n(5) {
			case 0, 1, 2:
				p.edit(i, &d)
			case 3:
				r, _ := client.Fetch(p.clients[i])
				late = append(late, p.ask(r))
				p.hear(i, late[len(late)-1-d.n(1+d.n(2)*(len(late)-1))])
			case 4:
				p.send(i, d.n(6))
			}
		}
		p.settle()
		aside, resets = aside+p.aside, resets+p.resets
	}
	if aside < 100 || resets < 5 {
		t.Errorf("%d went aside, at %d resets: too few", aside, resets)
	}
}

// settle: each in turn asks until it has all, sends all, and asks again, twice.
func (p *party) settle() {
	for range 2 {
		for i := range p.clients {
			p.fetch(i)
			for ok := true; ok; {
				p.send(i, 3)
				p.fetch(i)
				_, _, ok, _ = client.Send(p.clients[i])
			}
		}
	}
	tree, _ := hub.Tree(p.h, "f")
	for _, c := range p.clients {
		if same, err := delta.Same(c.Mine, tree); !same || err != api.OK || !slices.Equal(c.Base, tree) || c.Key != "" {
			p.Fatalf("%v, and the hub has %v", c, tree)
		}
	}
}
