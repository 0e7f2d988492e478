package hub_test

import (
	"fmt"
	"slices"
	"testing"

	"tetherpost/api"
	"tetherpost/brief"
	"tetherpost/grant"
	"tetherpost/hub"
)

// draw numbers, the same each time.
type draw uint64

func (d *draw) n(n int) int {
	*d = *d*6364136223846793005 + 1442695040888963407
	return int(uint64(*d) >> 33 % uint64(n))
}

func (d *draw) of(l ...string) string { return l[d.n(len(l))] }

// request of somebody in a folder, mostly about a session that there is.
func (d *draw) request(h api.Hub, who, folder string) api.Request {
	r := api.Request{Kind: 1 + d.n(8), Who: who, Folder: folder, Name: d.of("a", "b", "c", "z"), Number: d.n(4)}
	r.Key, r.Base, r.Text = fmt.Sprint("k", d.n(200)), d.n(30)-1, d.of("", "t", "tt")
	r.Changes = brief.Based(brief.Changes(d.of("x=1", "x=2 y=3", "+d", "d/x=1 -x", "-d", "x>y", "y>d/y", "-x -y")), r.Base)
	switch r.Kind {
	case api.AskAppend, api.AskQuery, api.AskFinish:
		for _, s := range h.Uploads.Sessions {
			if s.Who == who && d.n(3) > 0 {
				r.Number, r.Offset = s.Number, len(s.Text)
			}
		}
	case api.AskPage:
		r.Number = d.n(12)
	}
	return r
}

// folder of a hub by its name, and the grants in it.
func folder(h api.Hub, name string) string {
	i := slices.IndexFunc(h.Folders, func(f api.Shared) bool { return f.Name == name })
	if i < 0 {
		return "none"
	}
	l := slices.DeleteFunc(slices.Clone(h.Grants), func(g api.Grant) bool { return g.Folder != name })
	return shown(h.Folders[i], l)
}

// drawn hubs, each with what was asked of it: all that passes Check goes on passing it.
func drawn(t *testing.T, seed draw, steps int, see func(d *draw, h api.Hub)) {
	t.Helper()
	d, h := seed, sample()
	h.Grants = brief.Grants("e:b2 e:c3 f:a3 f:b2 f:c1 g:a1 g:b3 g:c2")
	for range steps {
		r := d.request(h, d.of("a", "b", "c", "z"), d.of("e", "f", "g"))
		if r.Kind == api.AskGrant && r.Name == "z" { // z has no right anywhere
			continue
		}
		next, a, err := hub.Serve(h, r)
		if err != api.OK || hub.Check(next) != api.OK || a.Err != api.OK && shown(next) != shown(h) {
			t.Fatalf("%+v: %+v %d, %d", r, a, err, hub.Check(next))
		}
		if d.n(8) == 0 {
			next, _ = hub.Tick(next, d.n(5))
		}
		h = next
		see(&d, h)
	}
}

// another hub, in which f is what it never was, with others in it.
func another(h api.Hub) api.Hub {
	h = clone(h)
	i := slices.IndexFunc(h.Folders, func(f api.Shared) bool { return f.Name == "f" })
	h.Folders[i].Journal = brief.Journal(3, brief.Entries(1, "secret=1"), "k3 +x", "k0 -secret")
	l := slices.DeleteFunc(h.Grants, func(g api.Grant) bool { return g.Folder == "f" })
	h.Grants, _ = grant.Make(l, "f", "d")
	return h
}

// I5: who has no right in a folder hears nothing of it, and changes nothing in it.
func TestI5NoRight(t *testing.T) {
	drawn(t, 1, 600, func(d *draw, h api.Hub) {
		r := d.request(h, "z", "f")
		next, a, _ := hub.Serve(h, r)
		_, b, err := hub.Serve(another(h), r)
		if shown(a) != shown(b) || err != api.OK || folder(next, "f") != folder(h, "f") {
			t.Fatalf("%+v: %+v, %+v", r, a, b)
		}
	})
}

// I5: who may only look changes nothing (but that who had the right may give it up).
func TestI5OnlyLooks(t *testing.T) {
	drawn(t, 2, 600, func(d *draw, h api.Hub) {
		l, err := grant.Give(h.Grants, "f", "a", "c", api.RightView)
		if err != api.OK { // a is no owner any more
			return
		}
		h.Grants = l
		r := d.request(h, "c", "f")
		next, a, _ := hub.Serve(h, r)
		givesUp := r.Kind == api.AskGrant && r.Name == "c" && r.Number == api.RightNone
		if folder(next, "f") != folder(h, "f") && !givesUp {
			t.Fatalf("%+v: %+v, %v, and it was %v", r, a, next, h)
		}
	})
}

// I5: what is asked of one folder does not hang on others, and changes nothing in them.
func TestI5OtherFolders(t *testing.T) {
	drawn(t, 3, 600, func(d *draw, h api.Hub) {
		r := d.request(h, d.of("a", "b", "c", "z"), d.of("e", "g"))
		next, a, _ := hub.Serve(h, r)
		other, b, err := hub.Serve(another(h), r)
		if shown(a) != shown(b) || err != api.OK || folder(next, r.Folder) != folder(other, r.Folder) {
			t.Fatalf("%+v: %+v, %+v", r, a, b)
		}
		if folder(next, "f") != folder(h, "f") || folder(other, "f") != folder(another(h), "f") {
			t.Fatalf("%+v: f was changed", r)
		}
	})
}

// I5: who asks twice by one key is answered alike, and has asked once.
func TestI5Twice(t *testing.T) {
	met := 0
	drawn(t, 4, 600, func(d *draw, h api.Hub) {
		r := d.request(h, d.of("a", "b", "c"), d.of("e", "f", "g"))
		r.Kind = api.AskCommit
		once, a, _ := hub.Serve(h, r)
		for range 3 {
			twice, b, err := hub.Serve(once, r)
			want(t, fmt.Sprint(r), shown(twice, b, err), shown(once, a, api.OK))
		}
		if a.Err == api.OK {
			met++
		}
	})
	if met < 50 {
		t.Errorf("%d commits: too few", met)
	}
}
