package own_test

import (
	"reflect"
	"testing"

	"tetherpost/api"
	"tetherpost/brief"
	"tetherpost/own"
)

func sampleHub() api.Hub {
	return api.Hub{
		Folders: []api.Shared{{Name: "f", Journal: brief.Journal(3, brief.Entries(1, "a", "a/x=1"), "k a/x=2 +b", "l -b")}, {Name: "g", Journal: api.Journal{First: 1}}},
		Grants:  brief.Grants("f:a3 f:b1 g:b3"),
		Uploads: api.Uploads{Sessions: brief.Sessions("1 a ab 5 9"), Next: 2, Lasts: 10, Room: 20},
		Now:     5,
	}
}

func sampleClient() api.Client {
	return api.Client{Who: "a", Folder: "f", Base: brief.Entries(2, "x=1"), Cursor: 2, Mine: brief.Entries(1, "x=2"), Key: "a-1", Asked: brief.Changes("x=2"), Keys: 1}
}

// P2: a copy is what was copied, and stays so, whatever is written where that was.
func TestP2Hub(t *testing.T) {
	h := sampleHub()
	got := own.Hub(h)
	j := h.Folders[0].Journal
	clear(j.Commits[0].Changes)
	clear(j.Commits)
	clear(j.Base)
	clear(h.Folders)
	clear(h.Grants)
	clear(h.Uploads.Sessions)
	if !reflect.DeepEqual(got, sampleHub()) {
		t.Errorf("%+v, must be %+v", got, sampleHub())
	}
}

func TestP2Client(t *testing.T) {
	c := sampleClient()
	got := own.Client(c)
	clear(c.Base)
	clear(c.Mine)
	clear(c.Asked)
	if !reflect.DeepEqual(got, sampleClient()) {
		t.Errorf("%+v, must be %+v", got, sampleClient())
	}
}

func TestP2World(t *testing.T) {
	sample := func() api.World {
		return api.World{Hub: sampleHub(), Clients: []api.Client{sampleClient()}, Letters: []api.Letter{{Kind: api.AskPage, Text: "x"}}}
	}
	w := sample()
	got := own.World(w)
	clear(w.Hub.Folders[0].Journal.Commits[0].Changes)
	clear(w.Hub.Grants)
	clear(w.Clients[0].Base)
	clear(w.Clients[0].Mine)
	clear(w.Clients[0].Asked)
	clear(w.Clients)
	clear(w.Letters)
	if !reflect.DeepEqual(got, sample()) {
		t.Errorf("%+v, must be %+v", got, sample())
	}
}
