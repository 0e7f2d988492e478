package tree_test

import (
	"fmt"
	"slices"
	"strings"
	"testing"

	"tetherpost/api"
	"tetherpost/path"
	"tetherpost/tree"
)

func folder(p string, version int) api.Entry {
	return api.Entry{Path: p, Folder: true, Version: version}
}

func file(p, text string, version int) api.Entry {
	return api.Entry{Path: p, Text: text, Version: version}
}

// sample has names between a and a/, which rise in the midst of what is within a.
func sample() []api.Entry {
	return []api.Entry{
		folder("a", 1), file("a b", "blank", 2), file("a-b", "", 3), file("a.b", "\x00\xff", 4),
		file("a/x", "1", 5), folder("a/y", 6), file("a/y/z", "22", 7), folder("a0", 8), file("b", "333", 9),
	}
}

func many(n int) []api.Entry {
	var t []api.Entry
	for i := range n {
		t = append(t, file(fmt.Sprintf("p%03d", i), "t", 1))
	}
	return t
}

func text(n int) string { return strings.Repeat("t", n) }

var (
	tooDeep = strings.Repeat("a/", api.MaxDeep) + "a"
	tooLong = strings.Repeat(strings.Repeat("n", api.MaxName)+"/", 3) + strings.Repeat("n", 18)
)

func wantTree(t *testing.T, call string, got []api.Entry, err api.Errno, want []api.Entry, wantErr api.Errno) {
	t.Helper()
	if err != wantErr || !slices.Equal(got, want) {
		t.Errorf("%s:\n%v %d, must be\n%v %d", call, got, err, want, wantErr)
	}
	if err == api.OK && tree.Check(got) != api.OK {
		t.Errorf("%s: %v has %d", call, got, tree.Check(got))
	}
}

// wrongTrees have one error each, or several, of which the first is told.
var wrongTrees = []struct {
	name string
	t    []api.Entry
	err  api.Errno
}{
	{"61 entries", many(61), api.ErrMany},
	{"61 entries, and more", append(many(60), file("?", "", 0)), api.ErrMany},
	{"no path", []api.Entry{folder("", 1)}, api.ErrForm},
	{"no form of a path", []api.Entry{folder("a", 1), folder("a/", 1)}, api.ErrForm},
	{"deep", []api.Entry{folder(tooDeep, 1)}, api.ErrMany},
	{"long", []api.Entry{folder(tooLong, 1)}, api.ErrMany},
	{"folder with a text", []api.Entry{{Path: "a", Folder: true, Text: "x", Version: 1}}, api.ErrForm},
	{"long text", []api.Entry{file("a", text(301), 1)}, api.ErrMany},
	{"version 0", []api.Entry{file("a", "", 0)}, api.ErrRange},
	{"version below 0", []api.Entry{file("a", "", -1)}, api.ErrRange},
	{"great version", []api.Entry{folder("a", api.MaxVersion+1)}, api.ErrRange},
	{"falling", []api.Entry{file("b", "", 1), file("a", "", 1)}, api.ErrState},
	{"twice", []api.Entry{file("a", "", 1), file("a", "x", 1)}, api.ErrState},
	{"falling at the blank", []api.Entry{folder("a", 1), file("a/b", "", 1), file("a b", "", 1)}, api.ErrState},
	{"no parent", []api.Entry{file("a/b", "", 1)}, api.ErrNone},
	{"no parent, but a grandparent", []api.Entry{folder("a", 1), file("a/b/c", "", 1)}, api.ErrNone},
	{"no parent, but one that begins so", []api.Entry{folder("ab", 1), file("ab/c", "", 1), folder("abc/d", 1)}, api.ErrNone},
	{"a file as a parent", []api.Entry{file("a", "", 1), file("a/b", "", 1)}, api.ErrState},

	{"the path ahead of the text", []api.Entry{{Path: "a/", Folder: true, Text: text(301)}}, api.ErrForm},
	{"many names ahead of a folder's text", []api.Entry{{Path: tooDeep, Folder: true, Text: "x"}}, api.ErrMany},
	{"a folder's text ahead of its length", []api.Entry{{Path: "a", Folder: true, Text: text(301)}}, api.ErrForm},
	{"the length ahead of the version", []api.Entry{file("a", text(301), 0)}, api.ErrMany},
	{"the version ahead of the order", []api.Entry{file("b", "", 1), file("a", "", 0)}, api.ErrRange},
	{"one entry ahead of the next one", []api.Entry{file("b", "", 0), file("?", "", 1)}, api.ErrRange},
	{"each entry ahead of the order", []api.Entry{file("b", "", 1), file("a", "", 1), file("?", "", 1)}, api.ErrForm},
	{"the order ahead of parents", []api.Entry{file("b/c", "", 1), file("a", "", 1)}, api.ErrState},
	{"none ahead of no folder", []api.Entry{file("a", "", 1), file("a/b", "", 1), file("c/d", "", 1)}, api.ErrNone},
}

func TestB1Check(t *testing.T) {
	for _, x := range wrongTrees {
		if got := tree.Check(x.t); got != x.err {
			t.Errorf("%s: %d, must be %d", x.name, got, x.err)
		}
	}
	// The document's example 2 stands first.
	for _, x := range [][]api.Entry{
		{folder("a", 5), file("a/b", "", 6)}, nil, {}, sample(), many(60), {file("a", text(300), 1)},
		{file("a", "", api.MaxVersion)}, {file("A", "", 1), file("a", "", 1)}, {folder("a", 9), folder("a/b", 1), file("a/b/c", "", 1)},
	} {
		if got := tree.Check(x); got != api.OK {
			t.Errorf("%v: %d", x, got)
		}
	}
}

func TestB1OthersTellItFirst(t *testing.T) {
	bad := api.Change{Kind: 9, Path: "?", Base: -9}
	for _, x := range wrongTrees {
		e, err := tree.Find(x.t, "?")
		if e != (api.Entry{}) || err != x.err {
			t.Errorf("Find, %s: %v %d", x.name, e, err)
		}
		l, err := tree.List(x.t, "?")
		if len(l) != 0 || err != x.err {
			t.Errorf("List, %s: %v %d", x.name, l, err)
		}
		n, err := tree.Size(x.t)
		if n != 0 || err != x.err {
			t.Errorf("Size, %s: %d %d", x.name, n, err)
		}
		got, err := tree.Apply(x.t, bad, 0)
		wantTree(t, "Apply, "+x.name, got, err, nil, x.err)
		got, n, err = tree.All(x.t, make([]api.Change, 21), 0)
		wantTree(t, "All, "+x.name, got, err, nil, x.err)
		if n != 0 {
			t.Errorf("All, %s: %d", x.name, n)
		}
	}
}

func TestB2Find(t *testing.T) {
	for _, e := range sample() {
		if got, err := tree.Find(sample(), e.Path); got != e || err != api.OK {
			t.Errorf("Find %q: %v %d", e.Path, got, err)
		}
	}
	for _, x := range []struct {
		p   string
		err api.Errno
	}{
		{"c", api.ErrNone}, {"a/z", api.ErrNone}, {"a/y/z/q", api.ErrNone}, {"A", api.ErrNone}, {"b/b", api.ErrNone},
		{"", api.ErrForm}, {"/", api.ErrForm}, {"a/", api.ErrForm}, {tooDeep, api.ErrMany}, {tooLong, api.ErrMany},
	} {
		if got, err := tree.Find(sample(), x.p); got != (api.Entry{}) || err != x.err {
			t.Errorf("Find %q: %v %d, must be %d", x.p, got, err, x.err)
		}
	}
}

func TestB2List(t *testing.T) {
	for _, x := range []struct {
		p    string
		want []string
		err  api.Errno
	}{
		{"", []string{"a", "a b", "a-b", "a.b", "a0", "b"}, api.OK},
		{"a", []string{"x", "y"}, api.OK}, {"a/y", []string{"z"}, api.OK}, {"a0", nil, api.OK},
		{"b", nil, api.ErrState}, {"a/y/z", nil, api.ErrState}, {"a b", nil, api.ErrState},
		{"c", nil, api.ErrNone}, {"b/c", nil, api.ErrNone},
		{"/", nil, api.ErrForm}, {"a/", nil, api.ErrForm}, {tooDeep, nil, api.ErrMany},
	} {
		if got, err := tree.List(sample(), x.p); !slices.Equal(got, x.want) || err != x.err {
			t.Errorf("List %q: %q %d, must be %q %d", x.p, got, err, x.want, x.err)
		}
	}
	if got, err := tree.List(nil, ""); len(got) != 0 || err != api.OK {
		t.Errorf("List of nothing: %q %d", got, err)
	}
}

func TestB2Size(t *testing.T) {
	for _, x := range []struct {
		t    []api.Entry
		want int
	}{{nil, 0}, {sample(), 13}, {many(60), 60}, {[]api.Entry{file("a", text(300), 1), file("b", text(300), 1)}, 600}} {
		if got, err := tree.Size(x.t); got != x.want || err != api.OK {
			t.Errorf("Size: %d %d, must be %d", got, err, x.want)
		}
	}
}

// B5: what comes of changes, whatever they are, passes Check, has what was written, and comes back when it is moved back.
func TestB5ManyChanges(t *testing.T) {
	at := []string{"a", "b", "a/a", "a/b", "a b", "a.b", "a/a/a", "b/a", "a/a/a/a", "a/a/a/a/a/a", "b/b/b/b/b", "c-", "c"}
	var now []api.Entry
	seed, made := uint64(1), 0
	draw := func(n int) int {
		seed = seed*6364136223846793005 + 1442695040888963407
		return int(seed >> 33 % uint64(n))
	}
	for i := 1; i <= 20000; i++ {
		c := api.Change{Kind: 1 + draw(4), Path: at[draw(len(at))], Base: api.Any}
		switch c.Kind {
		case api.ChangeMove:
			c.To = at[draw(len(at))]
		case api.ChangeWrite:
			c.Text = fmt.Sprint(i)
		}
		if c.Kind == api.ChangeDelete && draw(3) > 0 {
			continue
		}
		then, err := tree.Apply(now, c, i)
		if err != api.OK {
			wantTree(t, fmt.Sprint(c), then, err, nil, err)
			continue
		}
		made++
		if e := tree.Check(then); e != api.OK {
			t.Fatalf("%v of %v: %v has %d", c, now, then, e)
		}
		wantMade(t, now, then, c, i)
		now = then
	}
	if made < 2000 {
		t.Errorf("%d changes were made: too few to tell", made)
	}
}

// wantMade looks at each path on both sides: only those that the change names may differ.
func wantMade(t *testing.T, was, is []api.Entry, c api.Change, version int) {
	t.Helper()
	want := map[string]api.Entry{}
	for _, e := range was {
		if in, _ := path.Within(e.Path, c.Path); !in {
			want[e.Path] = e
		} else if c.Kind == api.ChangeMove {
			if e.Path == c.Path {
				e.Version = version
			}
			e.Path = c.To + strings.TrimPrefix(e.Path, c.Path)
			want[e.Path] = e
		}
	}
	switch c.Kind {
	case api.ChangeFolder:
		want[c.Path] = folder(c.Path, version)
	case api.ChangeWrite:
		want[c.Path] = file(c.Path, c.Text, version)
	}
	if len(want) != len(is) {
		t.Fatalf("%v of %v: %v", c, was, is)
	}
	for _, e := range is {
		if want[e.Path] != e {
			t.Fatalf("%v of %v: %v", c, was, is)
		}
	}
	if c.Kind == api.ChangeMove {
		wantBack(t, was, is, c, version)
	}
}

func wantBack(t *testing.T, was, is []api.Entry, c api.Change, version int) {
	t.Helper()
	want := slices.Clone(was)
	for i := range want {
		if want[i].Path == c.Path {
			want[i].Version = version
		}
	}
	back, err := tree.Apply(is, api.Change{Kind: api.ChangeMove, Path: c.To, To: c.Path, Base: api.Any}, version)
	wantTree(t, fmt.Sprint("there and back ", c), back, err, want, api.OK)
}

// spare: a tree with room behind it, which tells whether somebody wrote there.
func spare(t []api.Entry) []api.Entry {
	room := make([]api.Entry, len(t)+70)
	copy(room, t)
	for i := len(t); i < len(room); i++ {
		room[i] = file("room", "room", 77)
	}
	return room[:len(t)]
}

func wantSpare(t *testing.T, call string, got, want []api.Entry) {
	t.Helper()
	room := spare(want)
	if !slices.Equal(got[:cap(got)], room[:cap(room)]) {
		t.Errorf("%s changed what was handed in, or the room behind it", call)
	}
}

var everyKind = []api.Change{
	{Kind: api.ChangeFolder, Path: "n", Base: api.Any},
	{Kind: api.ChangeWrite, Path: "b", Text: "new", Base: api.Any},
	{Kind: api.ChangeWrite, Path: "0", Text: "new", Base: api.Any},
	{Kind: api.ChangeMove, Path: "a", To: "n", Base: api.Any},
	{Kind: api.ChangeMove, Path: "b", To: "0", Base: api.Any},
	{Kind: api.ChangeDelete, Path: "a", Base: api.Any},
	{Kind: api.ChangeDelete, Path: "b", Base: api.Any},
	{Kind: api.ChangeDelete, Path: "none", Base: api.Any},
	{},
}

// P2: what is handed in is only read, and what comes out is the caller's. P3: the same comes again.
func TestP2P3MemoryAndAgain(t *testing.T) {
	for _, c := range everyKind {
		in := spare(sample())
		out, err := tree.Apply(in, c, 9)
		kept := slices.Clone(out)
		wantSpare(t, fmt.Sprint("Apply ", c), in, sample())
		scribble(out)
		wantSpare(t, fmt.Sprint("who changes the answer of Apply ", c), in, sample())
		again, e := tree.Apply(in, c, 9)
		wantTree(t, fmt.Sprint("again ", c), again, e, kept, err)
		scribble(in[:cap(in)])
		wantTree(t, fmt.Sprint("kept ", c), again, e, kept, err)
	}
	for n := range len(everyKind) {
		in, l := spare(sample()), slices.Clone(everyKind[:n])
		out, _, _ := tree.All(in, l, 9)
		wantSpare(t, "All", in, sample())
		scribble(out)
		wantSpare(t, "who changes the answer of All", in, sample())
		if !slices.Equal(l, everyKind[:n]) {
			t.Errorf("All changed the changes")
		}
	}
}

func TestP2Readers(t *testing.T) {
	in := spare(sample())
	tree.Check(in)
	tree.Find(in, "a")
	tree.Size(in)
	l, _ := tree.List(in, "")
	for i := range l {
		l[i] = "changed"
	}
	wantSpare(t, "a reader", in, sample())
	if again, _ := tree.List(in, ""); slices.Contains(again, "changed") {
		t.Errorf("List keeps what it answered: %q", again)
	}
}

func scribble(t []api.Entry) {
	t = t[:cap(t)]
	for i := range t {
		t[i] = file("scribble", "scribble", -1)
	}
}

// P1: whatever comes in, each call ends, with no panic.
func TestP1WhateverComes(t *testing.T) {
	texts := []string{"", "/", "a", "a/b", "b", tooDeep, tooLong, text(1 << 20), strings.Repeat("/", 1<<20), "\xff\x00"}
	numbers := []int{-1 << 63, -2, -1, 0, 1, 5, api.MaxVersion, api.MaxVersion + 1, 1<<63 - 1}
	for _, p := range texts {
		for _, q := range texts {
			for _, n := range numbers {
				l := []api.Entry{{Path: p, Folder: n > 0, Text: q, Version: n}, file(q, p, n)}
				tree.Check(l)
				tree.Find(l, p)
				tree.List(sample(), q)
				for kind := -1; kind <= 5; kind++ {
					c := api.Change{Kind: kind, Path: p, To: q, Base: n}
					if got, err := tree.Apply(sample(), c, 1); err != api.OK && len(got) != 0 {
						t.Errorf("kind %d, %.30q to %.30q, base %d: a tree, with %d", kind, p, q, n, err)
					}
				}
			}
		}
	}
}
