package grant_test

import (
	"fmt"
	"slices"
	"testing"

	"tetherpost/api"
	"tetherpost/brief"
	"tetherpost/grant"
)

var of = brief.Grants

// owners of one folder.
func owners(n int) []api.Grant {
	var out []api.Grant
	for i := range n {
		out = append(out, api.Grant{Folder: "f", Who: fmt.Sprint("w", 100+i), Right: api.RightOwner})
	}
	return out
}

const long = brief.Long

var noNames = brief.NoNames()

type fault struct {
	name string
	l    []api.Grant
	err  api.Errno
}

// faults: where several errors apply, the one that is named first is wanted.
func faults() []fault {
	out := []fault{
		{"many", owners(61), api.ErrMany},
		{"many, form", make([]api.Grant, 61), api.ErrMany},
		{"form, range", make([]api.Grant, 1), api.ErrForm},
		{"form, range of the one behind it", []api.Grant{{Folder: "f", Who: "", Right: 3}, {Folder: "f", Who: "b", Right: 4}}, api.ErrForm},
		{"range, form of the one behind it", []api.Grant{{Folder: "f", Who: "a", Right: 4}, {Folder: "f", Who: "", Right: 3}}, api.ErrRange},
		{"form, order", []api.Grant{{Folder: "g", Who: "a", Right: 3}, {Folder: "f", Who: "/", Right: 3}}, api.ErrForm},
		{"right 0", of("f:a3 f:b0"), api.ErrRange},
		{"right 4", of("f:a3 f:b4"), api.ErrRange},
		{"right below 0", []api.Grant{{Folder: "f", Who: "a", Right: -1}}, api.ErrRange},
		{"range, order", of("f:b3 f:a4"), api.ErrRange},
		{"range, owner", of("f:a0"), api.ErrRange},
		{"folders fall", of("g:a3 f:a3"), api.ErrState},
		{"folders fall, who rises", of("g:a3 f:b3"), api.ErrState},
		{"who falls", of("f:b3 f:a3"), api.ErrState},
		{"who falls in the second folder", of("f:a3 g:b3 g:a3"), api.ErrState},
		{"the same twice", of("f:a3 f:a3"), api.ErrState},
		{"the same twice, of another right", of("f:a3 f:a2"), api.ErrState},
		{"a folder that comes again", of("f:a3 g:a3 f:b3"), api.ErrState},
		{"a name that ends first is less", of("f:ab3 f:a3"), api.ErrState},
		{"great letters are less", of("f:a3 f:B3"), api.ErrState},
		{"order, owner", of("f:b2 f:a2"), api.ErrState},
		{"order, owner of another one", of("e:a2 f:b3 f:a3"), api.ErrState},
		{"no owner", of("f:a2"), api.ErrNone},
		{"some, and no owner", of("f:a2 f:b1 f:c2"), api.ErrNone},
		{"no owner of the second folder", of("f:a3 g:a2"), api.ErrNone},
		{"no owner of the first folder", of("f:a2 g:a3"), api.ErrNone},
	}
	for _, s := range noNames {
		out = append(out, fault{"folder " + s, []api.Grant{{Folder: s, Who: "a", Right: 3}}, api.ErrForm},
			fault{"who " + s, []api.Grant{{Folder: "f", Who: "a", Right: 3}, {Folder: "g", Who: s, Right: 3}}, api.ErrForm})
	}
	return out
}

func TestF1Check(t *testing.T) {
	for _, l := range [][]api.Grant{
		nil, {}, of("f:a3"), of("f:a1 f:b2 f:c3 g:a3"), of("f:a3 f:b3"), of("f:B3 f:a3 f:ab1"), of("f:b3 fa:a3"), owners(60),
		{{Folder: long, Who: "a b", Right: 3}, {Folder: long, Who: long, Right: 1}},
	} {
		if err := grant.Check(l); err != api.OK {
			t.Errorf("%v: %d", l, err)
		}
	}
	for _, x := range faults() {
		if err := grant.Check(x.l); err != x.err {
			t.Errorf("%s: %d, must be %d", x.name, err, x.err)
		}
	}
}

// F1: the others tell what Check says ahead of what is wrong with all else, and answer nothing then.
func TestF1First(t *testing.T) {
	for _, x := range faults() {
		for _, s := range []string{"f", "/"} {
			if n, err := grant.Right(x.l, s, "a"); n != 0 || err != x.err {
				t.Errorf("%s: Right: %d %d, must be %d", x.name, n, err, x.err)
			}
			if l, err := grant.Who(x.l, s); len(l) != 0 || err != x.err {
				t.Errorf("%s: Who: %v %d, must be %d", x.name, l, err, x.err)
			}
			wantGive(t, x.l, s, "a", "a", 7, nil, x.err)
			wantMake(t, x.l, s, "a", nil, x.err)
		}
	}
}

// sample has two folders; a is in both.
func sample() []api.Grant { return of("f:a3 f:b2 f:c1 g:a1 g:d3 g:e3") }

func TestF2Right(t *testing.T) {
	for folder, rights := range map[string]map[string]int{
		"f": {"a": 3, "b": 2, "c": 1, "d": 0, "e": 0, "A": 0, "f": 0, long: 0},
		"g": {"a": 1, "b": 0, "c": 0, "d": 3, "e": 3},
		"h": {"a": 0, "b": 0, "c": 0, "d": 0},
		"F": {"a": 0}, "ff": {"a": 0}, long: {"a": 0},
	} {
		for who, want := range rights {
			if got, err := grant.Right(sample(), folder, who); got != want || err != api.OK {
				t.Errorf("%s in %s: %d %d, must be %d", who, folder, got, err, want)
			}
		}
	}
	for _, s := range noNames {
		for _, x := range [][2]string{{s, "a"}, {"f", s}, {s, s}} {
			if got, err := grant.Right(sample(), x[0], x[1]); got != 0 || err != api.ErrForm {
				t.Errorf("%q in %q: %d %d", x[1], x[0], got, err)
			}
		}
	}
}

func TestF2Who(t *testing.T) {
	for folder, want := range map[string][]string{"f": {"a", "b", "c"}, "g": {"a", "d", "e"}, "h": nil, "ff": nil, long: nil} {
		if got, err := grant.Who(sample(), folder); !slices.Equal(got, want) || err != api.OK {
			t.Errorf("%s: %v %d, must be %v", folder, got, err, want)
		}
	}
	for _, s := range noNames {
		if got, err := grant.Who(sample(), s); len(got) != 0 || err != api.ErrForm {
			t.Errorf("%q: %v %d", s, got, err)
		}
	}
}

func wantGive(t *testing.T, l []api.Grant, folder, by, who string, right int, want []api.Grant, wantErr api.Errno) {
	t.Helper()
	got, err := grant.Give(l, folder, by, who, right)
	if !slices.Equal(got, want) || err != wantErr {
		t.Errorf("%v: %q gives %d in %q to %q: %v %d, must be %v %d", l, by, right, folder, who, got, err, want, wantErr)
	}
}

func TestF3Give(t *testing.T) {
	for _, x := range []struct {
		folder, by, who string
		right           int
		want            string
	}{
		{"f", "a", "d", 1, "f:a3 f:b2 f:c1 f:d1 g:a1 g:d3 g:e3"},
		{"f", "a", "0", 2, "f:02 f:a3 f:b2 f:c1 g:a1 g:d3 g:e3"},
		{"f", "a", "aa", 3, "f:a3 f:aa3 f:b2 f:c1 g:a1 g:d3 g:e3"},
		{"f", "a", "b", 1, "f:a3 f:b1 f:c1 g:a1 g:d3 g:e3"},
		{"f", "a", "b", 2, "f:a3 f:b2 f:c1 g:a1 g:d3 g:e3"},
		{"f", "a", "b", 3, "f:a3 f:b3 f:c1 g:a1 g:d3 g:e3"},
		{"f", "a", "b", 0, "f:a3 f:c1 g:a1 g:d3 g:e3"},
		{"f", "a", "a", 3, "f:a3 f:b2 f:c1 g:a1 g:d3 g:e3"},
		{"f", "b", "b", 0, "f:a3 f:c1 g:a1 g:d3 g:e3"},
		{"f", "c", "c", 0, "f:a3 f:b2 g:a1 g:d3 g:e3"},
		{"g", "a", "a", 0, "f:a3 f:b2 f:c1 g:d3 g:e3"},
		{"g", "e", "d", 0, "f:a3 f:b2 f:c1 g:a1 g:e3"},
		{"g", "e", "d", 1, "f:a3 f:b2 f:c1 g:a1 g:d1 g:e3"},
		{"g", "d", "d", 0, "f:a3 f:b2 f:c1 g:a1 g:e3"},
		{"g", "d", "d", 2, "f:a3 f:b2 f:c1 g:a1 g:d2 g:e3"},
		{"g", "d", "z", 1, "f:a3 f:b2 f:c1 g:a1 g:d3 g:e3 g:z1"},
	} {
		wantGive(t, sample(), x.folder, x.by, x.who, x.right, of(x.want), api.OK)
	}
}

func TestF3Errors(t *testing.T) {
	for _, s := range noNames {
		wantGive(t, sample(), s, "a", "b", 1, nil, api.ErrForm)
		wantGive(t, sample(), "f", s, "b", 1, nil, api.ErrForm)
		wantGive(t, sample(), "f", "a", s, 9, nil, api.ErrForm)
		wantGive(t, sample(), "f", s, s, 0, nil, api.ErrForm)
	}
	for _, x := range []struct {
		folder, by, who string
		right           int
		err             api.Errno
	}{
		{"f", "a", "b", -1, api.ErrRange}, {"f", "a", "b", 4, api.ErrRange}, {"f", "b", "c", 4, api.ErrRange}, {"h", "z", "z", -1, api.ErrRange},
		{"f", "b", "c", 1, api.ErrDenied}, {"f", "b", "d", 1, api.ErrDenied}, {"f", "b", "c", 0, api.ErrDenied}, {"f", "c", "b", 0, api.ErrDenied},
		{"f", "b", "b", 1, api.ErrDenied}, {"f", "b", "b", 2, api.ErrDenied}, {"f", "b", "b", 3, api.ErrDenied}, {"f", "c", "a", 0, api.ErrDenied},
		{"f", "d", "b", 1, api.ErrDenied}, {"f", "d", "d", 1, api.ErrDenied}, {"f", "d", "e", 0, api.ErrDenied}, {"g", "a", "b", 1, api.ErrDenied},
		{"f", "z", "a", 3, api.ErrDenied}, {"h", "a", "b", 1, api.ErrDenied}, {"h", "a", "a", 3, api.ErrDenied}, {"h", "a", "b", 0, api.ErrDenied},
		{"f", "a", "d", 0, api.ErrNone}, {"f", "d", "d", 0, api.ErrNone}, {"h", "a", "a", 0, api.ErrNone}, {"g", "d", "b", 0, api.ErrNone},
		{"f", "a", "a", 0, api.ErrState}, {"f", "a", "a", 1, api.ErrState}, {"f", "a", "a", 2, api.ErrState},
	} {
		wantGive(t, sample(), x.folder, x.by, x.who, x.right, nil, x.err)
	}
}

func TestF3Many(t *testing.T) {
	full := owners(60)
	wantGive(t, full, "f", "w100", "new", 1, nil, api.ErrMany)
	wantGive(t, full, "f", "new", "new", 1, nil, api.ErrDenied)
	wantGive(t, full, "f", "w100", "w101", 0, slices.Delete(owners(60), 1, 2), api.OK)
	changed := owners(60)
	changed[59].Right = api.RightView
	wantGive(t, full, "f", "w100", "w159", 1, changed, api.OK)
	wantGive(t, full[1:], "f", "w101", "w100", 3, full, api.OK)
}

func wantMake(t *testing.T, l []api.Grant, folder, who string, want []api.Grant, wantErr api.Errno) {
	t.Helper()
	got, err := grant.Make(l, folder, who)
	if !slices.Equal(got, want) || err != wantErr {
		t.Errorf("%v: %q makes %q: %v %d, must be %v %d", l, who, folder, got, err, want, wantErr)
	}
}

func TestF4Make(t *testing.T) {
	wantMake(t, nil, "f", "a", of("f:a3"), api.OK)
	wantMake(t, sample(), "e", "z", of("e:z3 f:a3 f:b2 f:c1 g:a1 g:d3 g:e3"), api.OK)
	wantMake(t, sample(), "fa", "a", of("f:a3 f:b2 f:c1 fa:a3 g:a1 g:d3 g:e3"), api.OK)
	wantMake(t, sample(), "h", "b", of("f:a3 f:b2 f:c1 g:a1 g:d3 g:e3 h:b3"), api.OK)
	for _, s := range noNames {
		wantMake(t, sample(), s, "a", nil, api.ErrForm)
		wantMake(t, sample(), "f", s, nil, api.ErrForm)
	}
	for _, who := range []string{"a", "b", "z"} {
		wantMake(t, sample(), "f", who, nil, api.ErrTwice)
		wantMake(t, sample(), "g", who, nil, api.ErrTwice)
	}
	wantMake(t, owners(59), "g", "a", append(owners(59), of("g:a3")...), api.OK)
	wantMake(t, owners(60), "g", "a", nil, api.ErrMany)
	wantMake(t, owners(60), "f", "a", nil, api.ErrTwice)
	wantMake(t, owners(60), "/", "a", nil, api.ErrForm)
}

// The document's example: a makes f, and lets b look.
func TestF4Example(t *testing.T) {
	l, err := grant.Make(nil, "f", "a")
	if err != api.OK {
		t.Fatal(err)
	}
	wantGive(t, l, "f", "a", "b", api.RightView, of("f:a3 f:b1"), api.OK)
}

// F5: only owners give; each folder that is told of has an owner; what is given to one changes nothing for another one.
func TestF5All(t *testing.T) {
	names, folders := []string{"a", "b", "c"}, []string{"f", "g"}
	seed := uint64(1)
	draw := func(n int) int {
		seed = seed*6364136223846793005 + 1442695040888963407
		return int(seed >> 33 % uint64(n))
	}
	var l []api.Grant
	given, taken := 0, 0
	for range 3000 {
		folder, by, who, right := folders[draw(2)], names[draw(3)], names[draw(3)], draw(4)
		was, _ := grant.Right(l, folder, by)
		m, err := grant.Give(l, folder, by, who, right)
		if draw(20) == 0 {
			who, right = by, 3
			m, err = grant.Make(l, folder, by)
		} else if err == api.OK && was != api.RightOwner && (by != who || right != 0) {
			t.Fatalf("%v: %s gave %d in %s to %s", l, by, right, folder, who)
		}
		if err != api.OK {
			continue
		}
		wantOthers(t, l, m, folder, who, right)
		given, taken, l = given+1, taken+max(0, 1-right), m
	}
	if given < 300 || taken < 100 {
		t.Errorf("%d were given, %d taken: too few to tell", given, taken)
	}
}

func wantOthers(t *testing.T, before, after []api.Grant, folder, who string, right int) {
	t.Helper()
	if err := grant.Check(after); err != api.OK {
		t.Fatalf("%v: %d", after, err)
	}
	for _, f := range []string{"f", "g"} {
		for _, w := range []string{"a", "b", "c"} {
			want, _ := grant.Right(before, f, w)
			if f == folder && w == who {
				want = right
			}
			if got, err := grant.Right(after, f, w); got != want || err != api.OK {
				t.Errorf("%v, then %v: %s has %d in %s, %d", before, after, w, got, f, err)
			}
		}
	}
}

// P2: what is handed in is only read, and what comes out is the caller's. P3: the same comes again.
func TestP2P3Memory(t *testing.T) {
	room := func() []api.Grant { return append(sample(), owners(70)...)[:len(sample())] }
	l := room()
	for _, call := range []func() []api.Grant{
		func() []api.Grant { m, _ := grant.Give(l, "f", "a", "d", 1); return m },
		func() []api.Grant { m, _ := grant.Give(l, "f", "a", "b", 1); return m },
		func() []api.Grant { m, _ := grant.Give(l, "f", "a", "b", 2); return m },
		func() []api.Grant { m, _ := grant.Give(l, "f", "b", "b", 0); return m },
		func() []api.Grant { m, _ := grant.Make(l, "e", "a"); return m },
		func() []api.Grant { m, _ := grant.Make(l, "h", "a"); return m },
	} {
		first := call()
		was := slices.Clone(first)
		clear(first[:cap(first)])
		if again := call(); len(again) == 0 || !slices.Equal(again, was) {
			t.Errorf("%v, and it was %v", again, was)
		}
		if !slices.Equal(l[:70], room()[:70]) {
			t.Errorf("%v: it was changed, or the room behind it", l[:70])
		}
	}
	who, _ := grant.Who(l, "f")
	clear(who[:cap(who)])
	if who, _ := grant.Who(l, "f"); !slices.Equal(who, []string{"a", "b", "c"}) {
		t.Error(who)
	}
}
