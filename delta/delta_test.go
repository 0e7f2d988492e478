package delta_test

import (
	"fmt"
	"slices"
	"strings"
	"testing"

	"tetherpost/api"
	"tetherpost/delta"
	"tetherpost/path"
	"tetherpost/tree"
)

// of some entries: "a" is a folder, "a=x" a file with the text x; the first one has this version, the next one more.
func of(version int, l ...string) []api.Entry {
	var t []api.Entry
	for i, s := range l {
		p, text, file := strings.Cut(s, "=")
		t = append(t, api.Entry{Path: p, Folder: !file, Text: text, Version: version + i})
	}
	return t
}

// changes: "+a" is a folder that is made, "a=x" a file that is written, "-a" a delete.
func changes(l ...string) []api.Change {
	var out []api.Change
	for _, s := range l {
		c := api.Change{Kind: api.ChangeWrite, Base: api.Any}
		c.Path, c.Text, _ = strings.Cut(s, "=")
		switch s[0] {
		case '+':
			c.Kind, c.Path = api.ChangeFolder, s[1:]
		case '-':
			c.Kind, c.Path = api.ChangeDelete, s[1:]
		}
		out = append(out, c)
	}
	return out
}

// many files; their texts are the same.
func many(n int, name, text string) []api.Entry {
	var t []api.Entry
	for i := range n {
		t = append(t, api.Entry{Path: fmt.Sprintf("%s%03d", name, i), Text: text, Version: 1})
	}
	return t
}

func wantTree(t *testing.T, call string, got []api.Entry, err api.Errno, want []api.Entry, wantErr api.Errno) {
	t.Helper()
	if err != wantErr || !slices.Equal(got, want) {
		t.Errorf("%s: %v %d, must be %v %d", call, got, err, want, wantErr)
	}
}

var pairs = []struct {
	name string
	a, b []api.Entry
	want []api.Change
}{
	{"nothing", nil, nil, nil},
	{"an empty list", []api.Entry{}, nil, nil},
	{"from no tree to a file", nil, of(1, "a=x"), changes("a=x")},
	{"an empty file", nil, of(1, "a="), changes("a=")},
	{"to no tree", of(1, "a", "a/b", "a/b/c=1", "b="), nil, changes("-a", "-b")},
	{"the same", of(1, "a", "a/b=1"), of(1, "a", "a/b=1"), nil},
	{"other versions", of(1, "a", "a/b=1"), of(7, "a", "a/b=1"), nil},
	{"another text", of(1, "a", "a/b=1"), of(1, "a", "a/b=2"), changes("a/b=2")},
	{"a text less", of(1, "a=1"), of(1, "a="), changes("a=")},
	{"a folder more", of(1, "a"), of(1, "a", "b", "b/c"), changes("+b", "+b/c")},
	{"the parent first", nil, of(1, "a", "a/b", "a/b/c=1"), changes("+a", "+a/b", "a/b/c=1")},
	{"a folder becomes a file", of(1, "a", "a/b=1"), of(1, "a=1"), changes("-a", "a=1")},
	{"an empty folder becomes an empty file", of(1, "a"), of(1, "a="), changes("-a", "a=")},
	{"a file becomes a folder", of(1, "a=1"), of(1, "a", "a/b=1"), changes("-a", "+a", "a/b=1")},
	{"an empty file becomes a folder", of(1, "a="), of(1, "a"), changes("-a", "+a")},
	{"both ways", of(1, "a", "a/x", "b=1"), of(1, "a=1", "b", "b/x"), changes("-a", "-b", "a=1", "+b", "+b/x")},
	{"a folder becomes a file in one that stays", of(1, "a", "a/b", "a/b/c="), of(1, "a", "a/b=1"), changes("-a/b", "a/b=1")},
	{"within, behind what is not", of(1, "a", "a b=1", "a-b", "a-b/c=", "a.txt=", "a/b", "a/b/c=2", "a0=3"), of(1, "a0=3"), changes("-a", "-a b", "-a-b", "-a.txt")},
	{"what stays in the midst", of(1, "a", "a b=1", "a/b=2"), of(1, "a b=1"), changes("-a")},
	{"only what is within", of(1, "a", "a/b", "a/b/c=1", "a/d=2"), of(1, "a"), changes("-a/b", "-a/d")},
	{"deletes first", of(1, "b=1", "c=2", "z=3"), of(1, "a=1", "c=3"), changes("-b", "-z", "a=1", "c=3")},
	{"moved", of(1, "a", "a/b=1"), of(1, "c", "c/b=1"), changes("-a", "+c", "c/b=1")},
	{"any bytes", of(1, "a=\x00"), of(1, "a=\xff"), changes("a=\xff")},
	{"full, all others", many(60, "a", "1"), many(60, "b", "1"), slices.Concat(deleted(many(60, "a", "1")), written(many(60, "b", "1")))},
	{"full, other texts", many(60, "a", "1"), many(60, "a", "2"), written(many(60, "a", "2"))},
}

func deleted(t []api.Entry) []api.Change {
	var out []api.Change
	for _, e := range t {
		out = append(out, api.Change{Kind: api.ChangeDelete, Path: e.Path, Base: api.Any})
	}
	return out
}

func written(t []api.Entry) []api.Change {
	var out []api.Change
	for _, e := range t {
		out = append(out, api.Change{Kind: api.ChangeWrite, Path: e.Path, Text: e.Text, Base: api.Any})
	}
	return out
}

func TestC1Same(t *testing.T) {
	for _, x := range pairs {
		for _, y := range [][2][]api.Entry{{x.a, x.b}, {x.b, x.a}} {
			if got, err := delta.Same(y[0], y[1]); got != (len(x.want) == 0) || err != api.OK {
				t.Errorf("%s: %v %d", x.name, got, err)
			}
		}
	}
}

func TestC2Diff(t *testing.T) {
	for _, x := range pairs {
		if got, err := delta.Diff(x.a, x.b); !slices.Equal(got, x.want) || err != api.OK {
			t.Errorf("%s: %v %d, must be %v", x.name, got, err, x.want)
		}
	}
}

var wrongTrees = []struct {
	t   []api.Entry
	err api.Errno
}{
	{of(1, "?"), api.ErrForm}, {many(61, "a", ""), api.ErrMany}, {of(0, "a"), api.ErrRange},
	{of(1, "b=1", "a=1"), api.ErrState}, {of(1, "a=1", "a=1"), api.ErrState}, {of(1, "a/b"), api.ErrNone}, {of(1, "a=1", "a/b"), api.ErrState},
}

// C1: the trees' errors are told first, those of the first one ahead of those of the other one.
func TestC1Errors(t *testing.T) {
	good := of(1, "a", "a/b=1")
	for _, x := range wrongTrees {
		wantErrors(t, x.t, good, x.err)
		wantErrors(t, good, x.t, x.err)
		for _, y := range wrongTrees {
			wantErrors(t, x.t, y.t, x.err)
		}
		for _, l := range [][]api.Change{nil, changes("a=1"), make([]api.Change, 121)} {
			got, err := delta.Patch(x.t, l, 0)
			wantTree(t, "Patch of a wrong tree", got, err, nil, x.err)
		}
	}
}

func wantErrors(t *testing.T, a, b []api.Entry, want api.Errno) {
	t.Helper()
	if got, err := delta.Same(a, b); got || err != want {
		t.Errorf("Same of %v, %v: %v %d, must be %d", a, b, got, err, want)
	}
	if got, err := delta.Diff(a, b); len(got) != 0 || err != want {
		t.Errorf("Diff of %v, %v: %v %d, must be %d", a, b, got, err, want)
	}
}

func TestC3Patch(t *testing.T) {
	moved := []api.Change{{Kind: api.ChangeMove, Path: "a", To: "c", Base: 2}}
	stale := []api.Change{{Kind: api.ChangeWrite, Path: "a/b", Text: "x", Base: 1}}
	for _, x := range []struct {
		name    string
		l       []api.Change
		version int
		want    []api.Entry
		err     api.Errno
	}{
		{"none", nil, 50, of(1, "a", "a/b=1"), api.OK},
		{"none, whatever the version", nil, 0, of(1, "a", "a/b=1"), api.OK},
		{"one", changes("a/b=2"), 50, []api.Entry{{Path: "a", Folder: true, Version: 1}, {Path: "a/b", Text: "2", Version: 50}}, api.OK},
		{"a move", moved, 50, []api.Entry{{Path: "c", Folder: true, Version: 50}, {Path: "c/b", Text: "1", Version: 2}}, api.OK},
		{"one after the other", changes("-a", "+a", "a/c=3", "a/c=4", "+b", "-b"), 50, []api.Entry{{Path: "a", Folder: true, Version: 50}, {Path: "a/c", Text: "4", Version: 50}}, api.OK},
		{"the last version", changes("-a", "b=1"), api.MaxVersion, of(api.MaxVersion, "b=1"), api.OK},
		{"version 0", changes("-a"), 0, nil, api.ErrRange},
		{"great version", changes("-a"), api.MaxVersion + 1, nil, api.ErrRange},
		{"the first one's error", changes("-b", "+a", "?=1"), 50, nil, api.ErrNone},
		{"the second one's error", changes("+b", "+a", "?=1"), 50, nil, api.ErrTwice},
		{"the last one's error", changes("+b", "-b", "c/d=1"), 50, nil, api.ErrNone},
		{"no kind", make([]api.Change, 1), 50, nil, api.ErrKind},
		{"stale", stale, 50, nil, api.ErrStale},
	} {
		got, err := delta.Patch(of(1, "a", "a/b=1"), x.l, x.version)
		wantTree(t, x.name, got, err, x.want, x.err)
	}
}

func TestC3Limits(t *testing.T) {
	all := slices.Concat(deleted(many(60, "a", "1")), written(many(60, "b", "2")))
	got, err := delta.Patch(many(60, "a", "1"), all, 1)
	wantTree(t, "120 changes", got, err, many(60, "b", "2"), api.OK)
	got, err = delta.Patch(many(60, "a", "1"), append(all, changes("b000=3")...), 1)
	wantTree(t, "121 changes", got, err, nil, api.ErrMany)
	for _, version := range []int{0, 1} {
		got, err = delta.Patch(nil, make([]api.Change, 121), version)
		wantTree(t, "121 wrong changes", got, err, nil, api.ErrMany)
		got, err = delta.Patch(nil, append(changes("?"), all...), version)
		wantTree(t, "121 changes, a wrong one first", got, err, nil, api.ErrMany)
	}
	got, err = delta.Patch(nil, make([]api.Change, 120), 1)
	wantTree(t, "120 wrong changes", got, err, nil, api.ErrKind)
	got, err = delta.Patch(many(60, "a", "1"), changes("b=1", "-a000"), 1)
	wantTree(t, "too many entries on the way", got, err, nil, api.ErrMany)
}

// trees, many, with names that rise in the midst of what is within others.
func trees() [][]api.Entry {
	at := []string{"a", "a b", "a-b", "a-b/a", "a/a", "a/a b", "a/a/a", "a/a/a/b", "a/b", "b", "b/a", "b/a/a"}
	seed := uint64(1)
	draw := func(n int) int {
		seed = seed*6364136223846793005 + 1442695040888963407
		return int(seed >> 33 % uint64(n))
	}
	var out [][]api.Entry
	for range 60 {
		var l []api.Entry
		for _, p := range at {
			e := api.Entry{Path: p, Folder: draw(3) > 0, Version: 1 + draw(9)}
			if !e.Folder {
				e.Text = []string{"", "1", "2"}[draw(3)]
			}
			if draw(4) > 0 && tree.Check(append(slices.Clone(l), e)) == api.OK {
				l = append(l, e)
			}
		}
		out = append(out, l)
	}
	return out
}

// C4: who patches a tree by what parts it from another one has that one; what is the same in both keeps its version.
func TestC4DiffAndPatch(t *testing.T) {
	for _, a := range trees() {
		for _, b := range trees() {
			l, err := delta.Diff(a, b)
			if err != api.OK {
				t.Fatalf("%v, %v: %d", a, b, err)
			}
			var want []api.Entry
			for _, e := range b {
				was, none := tree.Find(a, e.Path)
				e.Version = 50
				if none == api.OK && was.Folder == e.Folder && was.Text == e.Text {
					e = was
				}
				want = append(want, e)
			}
			got, err := delta.Patch(a, l, 50)
			wantTree(t, fmt.Sprint(a, b), got, err, want, api.OK)
			if same, err := delta.Same(got, b); !same || err != api.OK {
				t.Errorf("%v, %v: %v %d", got, b, same, err)
			}
			if same, _ := delta.Same(a, b); same != (len(l) == 0) {
				t.Errorf("%v, %v: the same: %v, but %v parts them", a, b, same, l)
			}
			wantInOrder(t, a, l)
		}
	}
}

// C2: deletes rise, none within another one, then what is made rises; and each change is needed.
func wantInOrder(t *testing.T, a []api.Entry, l []api.Change) {
	t.Helper()
	n := 0
	for n < len(l) && l[n].Kind == api.ChangeDelete {
		n++
	}
	for i, c := range l {
		if c.Base != api.Any || c.To != "" || i >= n && c.Kind == api.ChangeDelete {
			t.Errorf("%v of %v", c, l)
		}
		if i > 0 && i != n && l[i-1].Path >= c.Path {
			t.Errorf("%v: they do not rise", l)
		}
		for _, d := range l[:min(i, n)] {
			if in, _ := path.Within(c.Path, d.Path); in && c.Kind == api.ChangeDelete {
				t.Errorf("%v: %v goes with %v", l, c, d)
			}
		}
	}
}

// room is a tree with spare room behind it, which tells whether somebody wrote there.
func room(t []api.Entry) []api.Entry {
	out := append(slices.Clone(t), many(130, "room", "")...)
	return out[:len(t)]
}

// P2: what is handed in is only read, and what comes out is the caller's. P3: the same comes again.
func TestP2P3MemoryAndAgain(t *testing.T) {
	for _, x := range pairs {
		a, b, l := room(x.a), room(x.b), append(slices.Clone(x.want), make([]api.Change, 130)...)
		for range 2 {
			delta.Same(a, b)
			made, _ := delta.Diff(a, b)
			got, _ := delta.Patch(a, l[:len(x.want)], 50)
			if same, _ := delta.Same(got, x.b); !same || !slices.Equal(made, x.want) {
				t.Errorf("%s: %v by %v", x.name, got, made)
			}
			clear(made[:cap(made)])
			clear(got[:cap(got)])
		}
		wantTree(t, x.name, a[:cap(a)], api.OK, room(x.a)[:cap(a)], api.OK)
		wantTree(t, x.name, b[:cap(b)], api.OK, room(x.b)[:cap(b)], api.OK)
		if !slices.Equal(l, append(slices.Clone(x.want), make([]api.Change, 130)...)) {
			t.Errorf("%s: the changes were changed", x.name)
		}
	}
}
