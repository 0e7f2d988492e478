package tree_test

import (
	"fmt"
	"slices"
	"testing"

	"tetherpost/api"
	"tetherpost/tree"
)

func mkdir(p string) api.Change {
	return api.Change{Kind: api.ChangeFolder, Path: p, Base: api.Any}
}

func write(p, text string) api.Change {
	return api.Change{Kind: api.ChangeWrite, Path: p, Text: text, Base: api.Any}
}

func move(p, to string) api.Change {
	return api.Change{Kind: api.ChangeMove, Path: p, To: to, Base: api.Any}
}

func remove(p string) api.Change {
	return api.Change{Kind: api.ChangeDelete, Path: p, Base: api.Any}
}

func based(c api.Change, base int) api.Change {
	c.Base = base
	return c
}

// with an entry more, in its place.
func with(t []api.Entry, e api.Entry) []api.Entry {
	i := 0
	for i < len(t) && t[i].Path < e.Path {
		i++
	}
	return slices.Insert(slices.Clone(t), i, e)
}

// without the entries at these paths.
func without(t []api.Entry, paths ...string) []api.Entry {
	return slices.DeleteFunc(slices.Clone(t), func(e api.Entry) bool { return slices.Contains(paths, e.Path) })
}

func TestB3What(t *testing.T) {
	moved := []api.Entry{
		file("a b", "blank", 2), file("a-b", "", 3), file("a.b", "\x00\xff", 4), folder("a0", 8),
		folder("a0/n", 50), file("a0/n/x", "1", 5), folder("a0/n/y", 6), file("a0/n/y/z", "22", 7), file("b", "333", 9),
	}
	for _, x := range []struct {
		c    api.Change
		want []api.Entry
	}{
		{mkdir("c"), with(sample(), folder("c", 50))},
		{mkdir("0"), with(sample(), folder("0", 50))},
		{mkdir("a/a"), with(sample(), folder("a/a", 50))},
		{write("c", "new"), with(sample(), file("c", "new", 50))},
		{write("a/y/n", ""), with(sample(), file("a/y/n", "", 50))},
		{write("c", text(300)), with(sample(), file("c", text(300), 50))},
		{write("b", "new"), with(without(sample(), "b"), file("b", "new", 50))},
		{write("b", "333"), with(without(sample(), "b"), file("b", "333", 50))},
		{write("a/y/z", ""), with(without(sample(), "a/y/z"), file("a/y/z", "", 50))},
		{move("b", "c"), with(without(sample(), "b"), file("c", "333", 50))},
		{move("b", "a/b"), with(without(sample(), "b"), file("a/b", "333", 50))},
		{move("a/x", "a1"), with(without(sample(), "a/x"), file("a1", "1", 50))},
		{move("a0", "a/y/n"), with(without(sample(), "a0"), folder("a/y/n", 50))},
		{move("a", "a0/n"), moved},
		{move("a/y", "0"), with(with(without(sample(), "a/y", "a/y/z"), folder("0", 50)), file("0/z", "22", 7))},
		{remove("b"), without(sample(), "b")},
		{remove("a0"), without(sample(), "a0")},
		{remove("a"), without(sample(), "a", "a/x", "a/y", "a/y/z")},
		{remove("a/y"), without(sample(), "a/y", "a/y/z")},
	} {
		got, err := tree.Apply(sample(), x.c, 50)
		wantTree(t, fmt.Sprint(x.c), got, err, x.want, api.OK)
	}
	got, err := tree.Apply(nil, write("a", ""), api.MaxVersion)
	wantTree(t, "of nothing", got, err, []api.Entry{file("a", "", api.MaxVersion)}, api.OK)
}

func TestB3Errors(t *testing.T) {
	for _, x := range []struct {
		c   api.Change
		err api.Errno
	}{
		{api.Change{Kind: 0, Path: "c"}, api.ErrKind}, {api.Change{Kind: 5, Path: "c"}, api.ErrKind}, {api.Change{Kind: -1, Path: "c"}, api.ErrKind},
		{mkdir(""), api.ErrForm}, {write("c/", ""), api.ErrForm}, {remove("/"), api.ErrForm}, {move("?", "c"), api.ErrForm}, {move("b", ""), api.ErrForm},
		{mkdir(tooDeep), api.ErrMany}, {remove(tooLong), api.ErrMany}, {move("b", tooDeep), api.ErrMany},
		{api.Change{Kind: api.ChangeFolder, Path: "c", To: "d"}, api.ErrForm},
		{api.Change{Kind: api.ChangeWrite, Path: "c", To: "d"}, api.ErrForm},
		{api.Change{Kind: api.ChangeDelete, Path: "b", To: "d", Base: 9}, api.ErrForm},
		{api.Change{Kind: api.ChangeFolder, Path: "c", Text: "d"}, api.ErrForm},
		{api.Change{Kind: api.ChangeMove, Path: "b", To: "c", Text: "d", Base: 9}, api.ErrForm},
		{api.Change{Kind: api.ChangeDelete, Path: "b", Text: "d", Base: 9}, api.ErrForm},
		{write("c", text(301)), api.ErrMany},
		{based(write("c", ""), -2), api.ErrRange}, {based(write("c", ""), api.MaxVersion+1), api.ErrRange},
		{mkdir("c/d"), api.ErrNone}, {write("c/d", ""), api.ErrNone}, {remove("c/d"), api.ErrNone}, {move("b", "c/d"), api.ErrNone},
		{mkdir("b/d"), api.ErrState}, {write("b/d", ""), api.ErrState}, {remove("b/d"), api.ErrState}, {move("a", "b/d"), api.ErrState},
		{mkdir("a"), api.ErrTwice}, {mkdir("b"), api.ErrTwice},
		{write("a", ""), api.ErrState}, {write("a/y", ""), api.ErrState},
		{move("c", "d"), api.ErrNone}, {move("a/n", "d"), api.ErrNone}, {move("c/n", "d"), api.ErrNone}, {move("b/n", "d"), api.ErrNone},
		{move("a", "a"), api.ErrRange}, {move("a", "a/n"), api.ErrRange}, {move("a", "a/y/n"), api.ErrRange}, {move("b", "b"), api.ErrRange},
		{move("b", "a"), api.ErrTwice}, {move("a", "b"), api.ErrTwice}, {move("a/x", "a/y/z"), api.ErrTwice},
		{remove("c"), api.ErrNone}, {remove("a/n"), api.ErrNone},
	} {
		got, err := tree.Apply(sample(), x.c, 50)
		wantTree(t, fmt.Sprint(x.c), got, err, nil, x.err)
	}
	for _, version := range []int{-1, 0, api.MaxVersion + 1} {
		got, err := tree.Apply(sample(), mkdir("c"), version)
		wantTree(t, "version", got, err, nil, api.ErrRange)
	}
}

func TestB3Base(t *testing.T) {
	for _, x := range []struct {
		c   api.Change
		err api.Errno
	}{
		{based(write("b", ""), 8), api.ErrStale}, {based(write("b", ""), 9), api.OK}, {based(write("b", ""), 0), api.ErrStale},
		{based(write("c", ""), 0), api.OK}, {based(mkdir("c"), 0), api.OK}, {based(mkdir("a0/c"), 0), api.OK},
		{based(remove("a"), 6), api.ErrStale}, {based(remove("a"), 7), api.OK}, {based(remove("a/y"), 6), api.ErrStale},
		{based(move("a", "c"), 6), api.ErrStale}, {based(move("a", "c"), 7), api.OK}, {based(move("a/x", "c"), 5), api.OK},
		{based(remove("a0"), 7), api.ErrStale}, {based(remove("a0"), api.MaxVersion), api.OK},
		{based(move("a/x", "a0/x"), 5), api.OK},
	} {
		got, err := tree.Apply(sample(), x.c, 50)
		if err != x.err || err != api.OK && len(got) != 0 {
			t.Errorf("%v: %v %d, must be %d", x.c, got, err, x.err)
		}
	}
}

// full has MaxEntries, and folders so deep that what goes there gets too many names.
func full() []api.Entry {
	t := many(56)
	for _, p := range []string{"q", "q/q", "q/q/q", "q/q/q/q"} {
		t = append(t, folder(p, 5))
	}
	return t
}

func TestB3Many(t *testing.T) {
	for _, x := range []struct {
		c   api.Change
		err api.Errno
	}{
		{mkdir("a"), api.ErrMany}, {write("a", ""), api.ErrMany}, {write("q/q/x", ""), api.ErrMany},
		{write("p000", "new"), api.OK}, {move("p000", "a"), api.OK}, {move("q", "a"), api.OK}, {remove("q"), api.OK},
	} {
		got, err := tree.Apply(full(), x.c, 50)
		if err != x.err || err != api.OK && len(got) != 0 {
			t.Errorf("%v: %v %d, must be %d", x.c, got, err, x.err)
		}
	}
	got, err := tree.Apply(full()[1:], write("z", "x"), 50)
	wantTree(t, "the last one", got, err, append(full()[1:], file("z", "x", 50)), api.OK)

	deep := []api.Entry{folder("a", 1), folder("a/a", 2), file("a/a/a", "", 3), folder("b", 4), folder("b/b", 5), folder("b/b/b", 6), folder("b/b/b/b", 7)}
	got, err = tree.Apply(deep, move("a", "b/b/b/b/b"), 50)
	wantTree(t, "too deep", got, err, nil, api.ErrMany)
	got, err = tree.Apply(deep, move("a", "b/b/b/c"), 50)
	wantTree(t, "just deep enough", got, err, append(deep[3:], folder("b/b/b/c", 50), folder("b/b/b/c/a", 2), file("b/b/b/c/a/a", "", 3)), api.OK)
	got, err = tree.Apply(deep, based(move("a", "b/b/b/b/b"), 2), 50)
	wantTree(t, "stale ahead of too deep", got, err, nil, api.ErrStale)
}

// Each change has two faults: the one that the promise names first is told.
func TestB3Order(t *testing.T) {
	long := api.Change{Kind: api.ChangeWrite, Path: "c", Text: text(301), Base: -2}
	for _, x := range []struct {
		name    string
		c       api.Change
		version int
		err     api.Errno
	}{
		{"version, kind", api.Change{Kind: 9, Path: "?"}, 0, api.ErrRange},
		{"kind, path", api.Change{Kind: 9, Path: "?"}, 1, api.ErrKind},
		{"path, to", move(tooDeep, "?"), 1, api.ErrMany},
		{"path, unused", api.Change{Kind: api.ChangeFolder, Path: tooDeep, To: "x"}, 1, api.ErrMany},
		{"to, unused", api.Change{Kind: api.ChangeMove, Path: "a", To: tooDeep, Text: "x"}, 1, api.ErrMany},
		{"unused, length", api.Change{Kind: api.ChangeFolder, Path: "c", Text: text(301)}, 1, api.ErrForm},
		{"unused to, length", api.Change{Kind: api.ChangeWrite, Path: "c", To: "d", Text: text(301)}, 1, api.ErrForm},
		{"length, base", long, 1, api.ErrMany},
		{"base, no parent", based(write("c/d", ""), -2), 1, api.ErrRange},
		{"base, a file as parent", based(write("b/d", ""), api.MaxVersion+1), 1, api.ErrRange},
		{"base, twice", based(mkdir("a"), -2), 1, api.ErrRange},
		{"parent of to, nothing there", move("c", "b/d"), 1, api.ErrState},
		{"parent of to, into itself", move("b", "b/d"), 1, api.ErrState},
		{"no parent of to, into itself", move("a", "a/c/d"), 1, api.ErrNone},
		{"nothing there, into itself", move("c", "c"), 1, api.ErrNone},
		{"nothing there, twice", move("c", "b"), 1, api.ErrNone},
		{"into itself, twice", move("a", "a/x"), 1, api.ErrRange},
		{"into itself, stale", based(move("a", "a/n"), 0), 1, api.ErrRange},
		{"twice, stale", based(mkdir("a"), 0), 1, api.ErrTwice},
		{"a folder is there, stale", based(write("a", ""), 0), 1, api.ErrState},
		{"to is taken, stale", based(move("a", "b"), 0), 1, api.ErrTwice},
	} {
		got, err := tree.Apply(sample(), x.c, x.version)
		wantTree(t, x.name, got, err, nil, x.err)
	}
	for _, c := range []api.Change{mkdir("p000"), based(mkdir("q"), 0)} {
		got, err := tree.Apply(full(), c, 1)
		wantTree(t, "twice, many", got, err, nil, api.ErrTwice)
	}
}

func TestB4All(t *testing.T) {
	twenty := make([]api.Change, api.MaxChanges)
	for i := range twenty {
		twenty[i] = write("b", fmt.Sprint(i))
	}
	for _, x := range []struct {
		name    string
		l       []api.Change
		version int
		want    []api.Entry
		n       int
		err     api.Errno
	}{
		{"none", nil, 50, sample(), 0, api.OK},
		{"none, whatever the version", nil, 0, sample(), 0, api.OK},
		{"an empty list", []api.Change{}, -1, sample(), 0, api.OK},
		{"one on the other", []api.Change{mkdir("c"), write("c/d", "x"), move("c", "e"), write("e/f", "")}, 50, append(sample(), folder("e", 50), file("e/d", "x", 50), file("e/f", "", 50)), 4, api.OK},
		{"there and away", []api.Change{mkdir("c"), remove("c")}, 50, sample(), 2, api.OK},
		{"twenty", twenty, 50, with(without(sample(), "b"), file("b", "19", 50)), 20, api.OK},
		{"more", append(slices.Clone(twenty), mkdir("c")), 50, nil, 0, api.ErrMany},
		{"more, of a wrong version", append(slices.Clone(twenty), mkdir("c")), 0, nil, 0, api.ErrMany},
		{"the first one", []api.Change{mkdir("a"), mkdir("?")}, 50, nil, 0, api.ErrTwice},
		{"the third one", []api.Change{mkdir("c"), mkdir("d"), mkdir("c"), mkdir("?")}, 50, nil, 2, api.ErrTwice},
		{"the last one", []api.Change{remove("a"), remove("b"), remove("a")}, 50, nil, 2, api.ErrNone},
		{"stale by itself", []api.Change{write("c", ""), based(write("c", ""), 49)}, 50, nil, 1, api.ErrStale},
		{"not stale by itself", []api.Change{write("c", ""), based(write("c", "x"), 50)}, 50, append(sample(), file("c", "x", 50)), 2, api.OK},
		{"version", []api.Change{mkdir("c")}, 0, nil, 0, api.ErrRange},
	} {
		got, n, err := tree.All(sample(), x.l, x.version)
		wantTree(t, x.name, got, err, x.want, x.err)
		if n != x.n {
			t.Errorf("%s: %d were made, must be %d", x.name, n, x.n)
		}
	}
}

// B4: All is Apply, one after the other.
func TestB4AsApply(t *testing.T) {
	l := []api.Change{mkdir("c"), move("a", "c/a"), write("c/a/x", "new"), remove("a b"), move("c/a/y", "a"), remove("c/a")}
	now := sample()
	for i, c := range l {
		var err api.Errno
		if now, err = tree.Apply(now, c, 50); err != api.OK {
			t.Fatal(err)
		}
		got, n, err := tree.All(sample(), l[:i+1], 50)
		wantTree(t, fmt.Sprint(i), got, err, now, api.OK)
		if n != i+1 {
			t.Errorf("%d: %d", i, n)
		}
	}
}

func TestB5Found(t *testing.T) {
	for _, p := range []string{"0", "a/0", "a/y/zz", "b", "z"} {
		got, err := tree.Apply(sample(), write(p, "found"), 50)
		if err != api.OK {
			t.Fatal(err)
		}
		if e, err := tree.Find(got, p); e != file(p, "found", 50) || err != api.OK {
			t.Errorf("Find %q: %v %d", p, e, err)
		}
	}
}

func TestB5ThereAndBack(t *testing.T) {
	for _, x := range [][2]string{{"a", "n"}, {"a", "a0/n"}, {"b", "a/y/b"}, {"a/y", "0"}} {
		got, n, err := tree.All(sample(), []api.Change{move(x[0], x[1]), move(x[1], x[0])}, 50)
		want := sample()
		for i := range want {
			if want[i].Path == x[0] {
				want[i].Version = 50
			}
		}
		wantTree(t, fmt.Sprint(x), got, err, want, api.OK)
		if n != 2 {
			t.Errorf("%v: %d", x, n)
		}
	}
}
