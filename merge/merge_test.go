package merge_test

import (
	"fmt"
	"slices"
	"strings"
	"testing"

	"tetherpost/api"
	"tetherpost/merge"
	"tetherpost/tree"
)

// of some entries: "a" is a folder, "a=x" a file with the text x; a version stands behind it ("a=x@3"), or is this one.
func of(version int, l ...string) []api.Entry {
	var t []api.Entry
	for _, s := range l {
		e := api.Entry{Version: version}
		s, number, own := strings.Cut(s, "@")
		if own {
			fmt.Sscan(number, &e.Version)
		}
		p, text, file := strings.Cut(s, "=")
		e.Path, e.Folder, e.Text = p, !file, text
		t = append(t, e)
	}
	return t
}

// base, mine and theirs have versions that tell them from each other.
func base(l ...string) []api.Entry   { return of(10, l...) }
func mine(l ...string) []api.Entry   { return of(20, l...) }
func theirs(l ...string) []api.Entry { return of(30, l...) }

// went: "a>b" is what was at a, and went to b.
func went(l ...string) []api.Copy {
	var out []api.Copy
	for _, s := range l {
		p, at, _ := strings.Cut(s, ">")
		out = append(out, api.Copy{Path: p, At: at})
	}
	return out
}

type asked struct {
	name               string
	base, mine, theirs []api.Entry
	want               []api.Entry
	copies             []api.Copy
	err                api.Errno
}

func (x asked) test(t *testing.T) {
	t.Helper()
	got, copies, err := merge.Merge(x.base, x.mine, x.theirs)
	if err != x.err || !slices.Equal(got, x.want) || !slices.Equal(copies, x.copies) {
		t.Errorf("%s:\n%v %v %d, must be\n%v %v %d", x.name, got, copies, err, x.want, x.copies, x.err)
	}
	if tree.Check(got) != api.OK {
		t.Errorf("%s: %v has %d", x.name, got, tree.Check(got))
	}
	clean, err := merge.Clean(x.base, x.mine, x.theirs)
	if clean != (x.err == api.OK && len(x.copies) == 0) || err != x.err {
		t.Errorf("%s: clean: %v %d", x.name, clean, err)
	}
}

// D1, D4: one path, whatever is there.
func TestD1D4OnePath(t *testing.T) {
	for _, x := range []asked{
		{"nothing", nil, nil, nil, nil, nil, api.OK},
		{"nobody changed it", base("f=1"), mine("f=1"), theirs("f=1"), of(30, "f=1"), nil, api.OK},
		{"both made the same", nil, mine("f=1"), theirs("f=1"), of(30, "f=1"), nil, api.OK},
		{"both made a folder", nil, mine("f"), theirs("f"), of(30, "f"), nil, api.OK},
		{"both wrote the same", base("f=1"), mine("f=2"), theirs("f=2"), of(30, "f=2"), nil, api.OK},
		{"both deleted it", base("f=1"), nil, nil, nil, nil, api.OK},
		{"both deleted the folder", base("f"), nil, nil, nil, nil, api.OK},
		{"both made a folder of it", base("f=1"), mine("f"), theirs("f"), of(30, "f"), nil, api.OK},
		{"both made a file of it", base("f"), mine("f=1"), theirs("f=1"), of(30, "f=1"), nil, api.OK},

		{"I wrote it", base("f=1"), mine("f=2"), theirs("f=1"), of(20, "f=2"), nil, api.OK},
		{"they wrote it", base("f=1"), mine("f=1"), theirs("f=2"), of(30, "f=2"), nil, api.OK},
		{"I made it", nil, mine("f="), nil, of(20, "f="), nil, api.OK},
		{"they made it", nil, nil, theirs("f="), of(30, "f="), nil, api.OK},
		{"I deleted it", base("f=1"), nil, theirs("f=1"), nil, nil, api.OK},
		{"they deleted it", base("f=1"), mine("f=1"), nil, nil, nil, api.OK},
		{"I deleted the folder", base("f"), nil, theirs("f"), nil, nil, api.OK},
		{"they deleted the folder", base("f"), mine("f"), nil, nil, nil, api.OK},
		{"I made a folder of it", base("f=1"), mine("f"), theirs("f=1"), of(20, "f"), nil, api.OK},
		{"they made a folder of it", base("f=1"), mine("f=1"), theirs("f"), of(30, "f"), nil, api.OK},
		{"I made a file of it", base("f"), mine("f="), theirs("f"), of(20, "f="), nil, api.OK},
		{"they made a file of it", base("f"), mine("f"), theirs("f="), of(30, "f="), nil, api.OK},

		{"I made a folder, they a file", nil, mine("f"), theirs("f=2"), of(0, "f@20", "f (1)=2@1"), went("f>f (1)"), api.OK},
		{"they made a folder, I a file", nil, mine("f=1"), theirs("f"), of(0, "f@30", "f (1)=1@1"), went("f>f (1)"), api.OK},
		{"I made a folder of it, they wrote it", base("f=0"), mine("f"), theirs("f=2"), of(0, "f@20", "f (1)=2@1"), went("f>f (1)"), api.OK},
		{"they made a folder of it, I wrote it", base("f=0"), mine("f=1"), theirs("f"), of(0, "f@30", "f (1)=1@1"), went("f>f (1)"), api.OK},
		{"I made a folder of it, they deleted it", base("f=0"), mine("f"), nil, of(20, "f"), nil, api.OK},
		{"they made a folder of it, I deleted it", base("f=0"), nil, theirs("f"), of(30, "f"), nil, api.OK},
		{"both made a file", nil, mine("f=1"), theirs("f=2"), of(0, "f=2@30", "f (1)=1@1"), went("f>f (1)"), api.OK},
		{"both made a file, mine is empty", nil, mine("f="), theirs("f=2"), of(0, "f=2@30", "f (1)=@1"), went("f>f (1)"), api.OK},
		{"both made a file, theirs is empty", nil, mine("f=1"), theirs("f="), of(0, "f=@30", "f (1)=1@1"), went("f>f (1)"), api.OK},
		{"both wrote it", base("f=0"), mine("f=1"), theirs("f=2"), of(0, "f=2@30", "f (1)=1@1"), went("f>f (1)"), api.OK},
		{"both made a file of it, not the same", base("f"), mine("f=1"), theirs("f=2"), of(0, "f=2@30", "f (1)=1@1"), went("f>f (1)"), api.OK},
		{"I wrote it, they deleted it", base("f=0"), mine("f=1"), nil, of(20, "f=1"), nil, api.OK},
		{"they wrote it, I deleted it", base("f=0"), nil, theirs("f=2"), of(30, "f=2"), nil, api.OK},
		{"I made a file of it, they deleted it", base("f"), mine("f="), nil, of(20, "f="), nil, api.OK},
		{"they made a file of it, I deleted it", base("f"), nil, theirs("f="), of(30, "f="), nil, api.OK},
	} {
		x.test(t)
	}
}

// D2: what goes aside by D1: where, and in which order.
func TestD2Aside(t *testing.T) {
	for _, x := range []asked{
		{"rising, not mine first", nil, mine("a=1", "b", "c=1", "d"), theirs("a=2", "b=2", "c", "d=2"),
			of(1, "a=2@30", "a (1)=1", "b@20", "b (1)=2", "c@30", "c (1)=1", "d@20", "d (1)=2"), went("a>a (1)", "b>b (1)", "c>c (1)", "d>d (1)"), api.OK},
		{"within folders", nil, mine("x", "x/n.txt=1", "x/y", "x/y/n.txt=1"), theirs("x", "x/n.txt=2", "x/y", "x/y/n.txt=2"),
			of(30, "x", "x/n (1).txt=1@1", "x/n.txt=2", "x/y", "x/y/n (1).txt=1@1", "x/y/n.txt=2"), went("x/n.txt>x/n (1).txt", "x/y/n.txt>x/y/n (1).txt"), api.OK},
		{"one is aside already, of mine", nil, mine("f=1", "f (1)=3"), theirs("f=2"), of(1, "f=2@30", "f (1)=3@20", "f (2)=1"), went("f>f (2)"), api.OK},
		{"one is aside already, of theirs", nil, mine("f=1"), theirs("f=2", "f (1)=3"), of(1, "f=2@30", "f (1)=3@30", "f (2)=1"), went("f>f (2)"), api.OK},
		{"a folder is there", nil, mine("f=1"), theirs("f=2", "f (1)"), of(1, "f=2@30", "f (1)@30", "f (2)=1"), went("f>f (2)"), api.OK},
		{"the same is aside already", nil, mine("f=1", "f (1)=1"), theirs("f=2"), of(1, "f=2@30", "f (1)=1@20", "f (2)=1"), went("f>f (2)"), api.OK},
		{"a gap", nil, mine("f=1", "f (1)=3", "f (3)=4"), theirs("f=2"), of(1, "f=2@30", "f (1)=3@20", "f (2)=1", "f (3)=4@20"), went("f>f (2)"), api.OK},
		{"what I deleted stands at theirs", base("f (1)=3"), mine("f=1"), theirs("f=2", "f (1)=3"), of(1, "f=2@30", "f (2)=1"), went("f>f (2)"), api.OK},
		{"what they deleted stands at mine", base("f (1)=3"), mine("f=1", "f (1)=3"), theirs("f=2"), of(1, "f=2@30", "f (2)=1"), went("f>f (2)"), api.OK},
		{"what both deleted is free", base("f (1)=3"), mine("f=1"), theirs("f=2"), of(1, "f=2@30", "f (1)=1"), went("f>f (1)"), api.OK},
		{"what is aside goes aside", nil, mine("f=1", "f (1)=3"), theirs("f=2", "f (1)=4"), of(1, "f=2@30", "f (1)=4@30", "f (1) (1)=3", "f (2)=1"), went("f>f (2)", "f (1)>f (1) (1)"), api.OK},
		{"beside what went aside just now", nil, mine("aaaaaaaaaaaaaaaaaaab=1", "aaaaaaaaaaaaaaaaaaac=2"), theirs("aaaaaaaaaaaaaaaaaaab=3", "aaaaaaaaaaaaaaaaaaac=4"),
			of(1, "aaaaaaaaaaaaaaaa (1)=1", "aaaaaaaaaaaaaaaa (2)=2", "aaaaaaaaaaaaaaaaaaab=3@30", "aaaaaaaaaaaaaaaaaaac=4@30"),
			went("aaaaaaaaaaaaaaaaaaab>aaaaaaaaaaaaaaaa (1)", "aaaaaaaaaaaaaaaaaaac>aaaaaaaaaaaaaaaa (2)"), api.OK},
		{"its own path", nil, mine("aaaaaaaaaaaaaaaa (1)=1"), theirs("aaaaaaaaaaaaaaaa (1)=2"),
			of(1, "aaaaaaaaaaaaaaaa (1)=2@30", "aaaaaaaaaaaaaaaa (2)=1"), went("aaaaaaaaaaaaaaaa (1)>aaaaaaaaaaaaaaaa (2)"), api.OK},
	} {
		x.test(t)
	}
}

// D2: parents that are not there, and files that are in their place.
func TestD2Parents(t *testing.T) {
	for _, x := range []asked{
		{"they deleted what I put something into", base("a", "a/x=1"), mine("a", "a/x=1", "a/y=2"), nil, of(20, "a", "a/y=2"), nil, api.OK},
		{"I deleted what they put something into", base("a", "a/x=1"), nil, theirs("a", "a/x=1", "a/y=2"), of(30, "a", "a/y=2"), nil, api.OK},
		{"deep", base("a", "a/b", "a/b/c", "a/d"), mine("a", "a/b", "a/b/c", "a/b/c/x=2", "a/d"), nil, of(20, "a", "a/b", "a/b/c", "a/b/c/x=2"), nil, api.OK},
		{"they deleted one of two", base("a", "a/b", "a/b/c"), mine("a", "a/b", "a/b/c", "a/b/c/x=2"), theirs("a"), of(20, "a@30", "a/b", "a/b/c", "a/b/c/x=2"), nil, api.OK},
		{"they deleted what I wrote in", base("a", "a/x=1"), mine("a", "a/x=2"), nil, of(20, "a", "a/x=2"), nil, api.OK},
		{"nobody put something in", base("a", "a/x=1"), mine("a", "a/x=1"), nil, nil, nil, api.OK},

		{"they put a file there", base("a", "a/x=1"), mine("a", "a/x=1", "a/y=2"), theirs("a=7"), of(20, "a", "a (1)=7@1", "a/y=2"), went("a>a (1)"), api.OK},
		{"I put a file there", base("a", "a/x=1"), mine("a=7"), theirs("a", "a/x=1", "a/y=2"), of(30, "a", "a (1)=7@1", "a/y=2"), went("a>a (1)"), api.OK},
		{"a file between", base("a", "a/b", "a/b/c"), mine("a", "a/b", "a/b/c", "a/b/c/x=2"), theirs("a", "a/b=7"),
			of(20, "a@30", "a/b", "a/b (1)=7@1", "a/b/c", "a/b/c/x=2"), went("a/b>a/b (1)"), api.OK},
		{"beside what is aside", base("a"), mine("a", "a/y=2"), theirs("a=7", "a (1)=8"), of(20, "a", "a (1)=8@30", "a (2)=7@1", "a/y=2"), went("a>a (2)"), api.OK},
		{"beside what one side deleted", base("a", "a (1)=8"), mine("a", "a/y=2"), theirs("a=7", "a (1)=8"), of(20, "a", "a (2)=7@1", "a/y=2"), went("a>a (2)"), api.OK},
		{"once for two", base("a"), mine("a", "a/y=2", "a/z=3"), theirs("a=7"), of(20, "a", "a (1)=7@1", "a/y=2", "a/z=3"), went("a>a (1)"), api.OK},
		{"in the order of what is within", base("a", "a-b"), mine("a", "a-b", "a-b/y=2", "a/y=2"), theirs("a=7", "a-b=8"),
			of(20, "a", "a (1)=7@1", "a-b", "a-b (1)=8@1", "a-b/y=2", "a/y=2"), went("a-b>a-b (1)", "a>a (1)"), api.OK},
		{"after those of D1", base("a"), mine("a", "a/y=2", "z=1"), theirs("a=7", "z=2"),
			of(20, "a", "a (1)=7@1", "a/y=2", "z=2@30", "z (1)=1@1"), went("z>z (1)", "a>a (1)"), api.OK},
		{"beside what went aside by D1", base("aaaaaaaaaaaaaaaaaaab"), mine("aaaaaaaaaaaaaaaaaaab", "aaaaaaaaaaaaaaaaaaab/y=2", "aaaaaaaaaaaaaaaaaaac=1"), theirs("aaaaaaaaaaaaaaaaaaab=7", "aaaaaaaaaaaaaaaaaaac=2"),
			of(20, "aaaaaaaaaaaaaaaa (1)=1@1", "aaaaaaaaaaaaaaaa (2)=7@1", "aaaaaaaaaaaaaaaaaaab", "aaaaaaaaaaaaaaaaaaab/y=2", "aaaaaaaaaaaaaaaaaaac=2@30"),
			went("aaaaaaaaaaaaaaaaaaac>aaaaaaaaaaaaaaaa (1)", "aaaaaaaaaaaaaaaaaaab>aaaaaaaaaaaaaaaa (2)"), api.OK},
	} {
		x.test(t)
	}
}

// D3: who had it as it is says the version: theirs ahead of mine.
func TestD3Versions(t *testing.T) {
	for _, x := range []asked{
		{"theirs ahead of mine", base("a@3", "f=1@3"), mine("a@5", "f=1@5"), theirs("a@4", "f=1@4"), of(4, "a", "f=1"), nil, api.OK},
		{"mine, if theirs is another one", base("f=1"), mine("f=2@5"), theirs("f=1@900"), of(5, "f=2"), nil, api.OK},
		{"mine, if they have a file there", nil, mine("f@5"), theirs("f=1@900"), of(1, "f@5", "f (1)=1"), went("f>f (1)"), api.OK},
		{"an empty file is no folder", nil, mine("f@5"), theirs("f=@900"), of(1, "f@5", "f (1)="), went("f>f (1)"), api.OK},
		{"the last version", base("f=1"), mine("f=2"), theirs("f=3@1000000"), of(1, "f=3@1000000", "f (1)=2"), went("f>f (1)"), api.OK},
	} {
		x.test(t)
	}
}

func many(n int, name, text string, version int) []api.Entry {
	var t []api.Entry
	for i := range n {
		t = append(t, api.Entry{Path: fmt.Sprintf("%s%03d", name, i), Text: text, Version: version})
	}
	return t
}

// D3: the trees' errors are told first, in their order.
func TestD3Errors(t *testing.T) {
	good := of(1, "a", "a/b=1")
	wrong := []struct {
		t   []api.Entry
		err api.Errno
	}{
		{of(1, "?"), api.ErrForm}, {many(61, "a", "", 1), api.ErrMany}, {of(0, "a"), api.ErrRange}, {of(1, "b=1", "a=1"), api.ErrState}, {of(1, "a/b"), api.ErrNone},
	}
	for _, x := range wrong {
		asked{"base", x.t, good, good, nil, nil, x.err}.test(t)
		asked{"mine", good, x.t, good, nil, nil, x.err}.test(t)
		asked{"theirs", good, good, x.t, nil, nil, x.err}.test(t)
		for _, y := range wrong {
			asked{"base ahead of the sides", x.t, y.t, y.t, nil, nil, x.err}.test(t)
			asked{"mine ahead of theirs", good, x.t, y.t, nil, nil, x.err}.test(t)
		}
	}
}

// D3: a tree has MaxEntries at the most; on the way there may be more of them on the sides together.
func TestD3Entries(t *testing.T) {
	for _, x := range []struct {
		name               string
		base, mine, theirs []api.Entry
		n, copies          int
		err                api.Errno
	}{
		{"30 and 30", nil, many(30, "a", "1", 1), many(30, "b", "1", 1), 60, 0, api.OK},
		{"30 and 31", nil, many(30, "a", "1", 1), many(31, "b", "1", 1), 0, 0, api.ErrMany},
		{"30 go aside", nil, many(30, "a", "1", 1), many(30, "a", "2", 1), 60, 30, api.OK},
		{"31 go aside", nil, many(31, "a", "1", 1), many(31, "a", "2", 1), 0, 0, api.ErrMany},
		{"all others", many(60, "a", "1", 1), many(60, "a", "1", 1), many(60, "b", "1", 1), 60, 0, api.OK},
		{"all others, and one more", many(60, "a", "1", 1), append(many(59, "a", "1", 1), of(1, "c=1")...), many(60, "b", "1", 1), 0, 0, api.ErrMany},
		{"59, a parent and what is in it", of(1, "z"), of(1, "z", "z/z=1"), many(58, "b", "1", 1), 60, 0, api.OK},
		{"60, a parent and what is in it", of(1, "z"), of(1, "z", "z/z=1"), many(59, "b", "1", 1), 0, 0, api.ErrMany},
		{"a file in the way", of(1, "z"), of(1, "z", "z/z=1"), append(many(57, "b", "1", 1), of(1, "z=1")...), 60, 1, api.OK},
		{"a file in the way, and no room", of(1, "z"), of(1, "z", "z/z=1"), append(many(58, "b", "1", 1), of(1, "z=1")...), 0, 0, api.ErrMany},
	} {
		got, copies, err := merge.Merge(x.base, x.mine, x.theirs)
		clean, e := merge.Clean(x.base, x.mine, x.theirs)
		if len(got) != x.n || len(copies) != x.copies || err != x.err || e != x.err || clean != (err == api.OK && x.copies == 0) {
			t.Errorf("%s: %d entries, %d copies, %d; %v %d", x.name, len(got), len(copies), err, clean, e)
		}
	}
}

// asides from number i to k of a file.
func asides(stem string, i, k int) []string {
	var out []string
	for n := i; n <= k; n++ {
		out = append(out, fmt.Sprintf("%s (%d)=x", stem, n))
	}
	slices.Sort(out)
	return out
}

// D3: no number is left, or none that Aside would take.
func TestD3NoneAside(t *testing.T) {
	low := asides("f", 1, 50)
	for _, last := range []int{98, 99} {
		theirSide := slices.Concat([]string{"f=2"}, asides("f", 51, last))
		x := asked{fmt.Sprint("up to ", last), base(low...), mine(append([]string{"f=1"}, low...)...), theirs(theirSide...), nil, nil, api.ErrMany}
		if last == 98 {
			x.want, x.copies, x.err = append(theirs(theirSide...), of(1, "f (99)=1")...), went("f>f (99)"), api.OK
		}
		x.test(t)
	}
	deep := strings.Repeat("nnnnnnnnnnnnnnnnnnnn/", 3)
	folders := []string{deep[:20], deep[:41], deep[:62]}
	in := func(name string, more ...string) []string {
		return append(slices.Clone(folders), append(more, name)...)
	}
	end := strings.Repeat("e", 13)
	asked{"no room for a number", nil, mine(in(deep + end + "x=1")...), theirs(in(deep + end + "x=2")...), nil, nil, api.ErrMany}.test(t)
	asked{"room for a number", nil, mine(in(deep + end + "=1")...), theirs(in(deep + end + "=2")...),
		theirs(append(in(deep+end+"=2"), deep+end+" (1)=1@1")...), went(deep + end + ">" + deep + end + " (1)"), api.OK}.test(t)
	nine := asides(deep+end, 1, 9)
	side := func(text string) []string { return slices.Concat(folders, []string{deep + end + text}, nine) }
	asked{"no room for two digits", nil, mine(side("=1")...), theirs(side("=2")...), nil, nil, api.ErrMany}.test(t)
	long := deep + strings.Repeat("e", 15)
	asked{"no room for a file in the way", base(in(long)...), mine(in(long+"/x=1", long)...), theirs(in(long + "=7")...), nil, nil, api.ErrMany}.test(t)
}

// trees, many, with names that rise in the midst of what is within others, and that are aside of others.
func trees(seed uint64, n int) [][]api.Entry {
	at := []string{"a", "a (1)", "a (1)/a", "a (2)", "a-b", "a-b/a", "a/a", "a/a (1)", "a/a/a", "a/a/a/b", "a/b", "b", "b/a", "b/a/a"}
	draw := func(n int) int {
		seed = seed*6364136223846793005 + 1442695040888963407
		return int(seed >> 33 % uint64(n))
	}
	var out [][]api.Entry
	for range n {
		var l []api.Entry
		for _, p := range at {
			e := api.Entry{Path: p, Folder: draw(3) > 0, Version: 1 + draw(9)}
			if !e.Folder {
				e.Text = []string{"", "1", "2"}[draw(3)]
			}
			if draw(4) > 0 && tree.Check(append(slices.Clone(l), e)) == api.OK {
				l = append(l, e)
			}
		}
		out = append(out, l)
	}
	return out
}

// at a path of a tree: its entry, without the version.
func at(t []api.Entry, p string) api.Entry {
	e, _ := tree.Find(t, p)
	e.Version = 0
	return e
}

// D5: what both changed alike, or nobody, or one side alone, stays; and each text that a side changed is there.
func TestD5NothingIsLost(t *testing.T) {
	dirty := 0
	for _, b := range trees(1, 12) {
		for _, m := range trees(2, 24) {
			for _, x := range trees(3, 24) {
				got, copies, err := merge.Merge(b, m, x)
				if err != api.OK || tree.Check(got) != api.OK {
					t.Fatalf("%v, %v, %v: %v %d", b, m, x, got, err)
				}
				if clean, err := merge.Clean(b, m, x); clean != (len(copies) == 0) || err != api.OK {
					t.Errorf("%v, %v, %v: clean: %v %d", b, m, x, clean, err)
				}
				dirty += len(copies)
				wantTexts(t, b, m, got, copies)
				wantTexts(t, b, x, got, copies)
				wantPaths(t, b, m, x, got, copies)
			}
		}
	}
	if dirty < 1000 {
		t.Errorf("%d files went aside: too few to tell", dirty)
	}
}

// wantTexts: each file that a side changed is at its path, or a copy tells where.
func wantTexts(t *testing.T, base, side, got []api.Entry, copies []api.Copy) {
	t.Helper()
	for _, e := range side {
		e.Version = 0
		if e.Folder || at(base, e.Path) == e || at(got, e.Path) == e {
			continue
		}
		if !slices.ContainsFunc(copies, func(c api.Copy) bool {
			return c.Path == e.Path && at(got, c.At).Text == e.Text && !at(got, c.At).Folder
		}) {
			t.Errorf("%v of %v (it was %v) is lost in %v %v", e, side, base, got, copies)
		}
	}
}

// wantPaths: what is at each path is of a side, or aside, or a folder that something is in; what only one side changed is as that side has it.
func wantPaths(t *testing.T, base, mine, theirs, got []api.Entry, copies []api.Copy) {
	t.Helper()
	for _, e := range slices.Concat(base, mine, theirs, got) {
		p := e.Path
		b, m, x, g := at(base, p), at(mine, p), at(theirs, p), at(got, p)
		names, _ := tree.List(got, p)
		wasAside := slices.ContainsFunc(copies, func(c api.Copy) bool { return c.At == p })
		if wasAside && (m.Path != "" || x.Path != "" || g.Path == "" || g.Folder) {
			t.Errorf("%v, %v, %v: %q is aside, in %v", base, mine, theirs, p, got)
		}
		want, one := m, x == b || m == x
		if m == b {
			want, one = x, true
		}
		if one && !wasAside && g != want && !(g.Folder && len(names) > 0) {
			t.Errorf("%v, %v, %v: %q is %v", base, mine, theirs, p, g)
		}
	}
}

// D5: who changed nothing takes the other side as it is.
func TestD5OneSide(t *testing.T) {
	for _, b := range trees(1, 40) {
		for _, m := range trees(2, 40) {
			asked{"they changed nothing", b, m, b, versions(m, b), nil, api.OK}.test(t)
			asked{"I changed nothing", b, b, m, m, nil, api.OK}.test(t)
			asked{"both changed it alike", b, versions(m, b), m, m, nil, api.OK}.test(t)
		}
	}
}

// versions of a tree are those of the other one, where that has the same.
func versions(t, other []api.Entry) []api.Entry {
	out := slices.Clone(t)
	for i, e := range out {
		e.Version = 0
		if at(other, e.Path) == e {
			out[i], _ = tree.Find(other, e.Path)
		}
	}
	return out
}

// room is a tree with spare room behind it, which tells whether somebody wrote there.
func room(t []api.Entry) []api.Entry {
	out := append(slices.Clone(t), many(130, "room", "", 1)...)
	return out[:len(t)]
}

// P2: what is handed in is only read, and what comes out is the caller's. P3: the same comes again.
func TestP2P3MemoryAndAgain(t *testing.T) {
	for _, b := range trees(1, 6) {
		for _, m := range trees(2, 6) {
			for _, x := range trees(3, 6) {
				in := [][]api.Entry{room(b), room(m), room(x)}
				first, moved, _ := merge.Merge(in[0], in[1], in[2])
				want, copies := slices.Clone(first), slices.Clone(moved)
				clear(first[:cap(first)])
				clear(moved[:cap(moved)])
				asked{"again", in[0], in[1], in[2], want, copies, api.OK}.test(t)
				for i, l := range [][]api.Entry{b, m, x} {
					if !slices.Equal(in[i][:cap(in[i])], room(l)[:cap(in[i])]) {
						t.Errorf("%v was changed, or the room behind it", l)
					}
				}
			}
		}
	}
}
