package journal_test

import (
	"fmt"
	"slices"
	"strings"
	"testing"

	"tetherpost/api"
	"tetherpost/brief"
	"tetherpost/journal"
	"tetherpost/tree"
)

var of, changes, based, commits, kept = brief.Entries, brief.Changes, brief.Based, brief.Commits, brief.Journal

// sample has a tree ahead of its first commit, and commits from 5 to 8.
func sample() api.Journal {
	return kept(5, of(3, "a", "a/x=1", "b=2"), "k5 a/x=5", "k6 +c a/x>c/x", "k7 -b b=7", "k8 -a")
}

// sampleAt is the tree that came of the sample's commits up to a number.
func sampleAt(number int) []api.Entry {
	return [][]api.Entry{
		of(3, "a", "a/x=1", "b=2"),
		slices.Concat(of(3, "a"), of(5, "a/x=5"), of(3, "b=2")),
		slices.Concat(of(3, "a", "b=2"), of(6, "c", "c/x=5")),
		slices.Concat(of(3, "a"), of(7, "b=7"), of(6, "c", "c/x=5")),
		slices.Concat(of(7, "b=7"), of(6, "c", "c/x=5")),
	}[number-4]
}

// long has n commits from a number on.
func long(first, n int) api.Journal {
	j := api.Journal{Base: of(1, "b=0"), First: first}
	for i := range n {
		j.Commits = append(j.Commits, commits(first+i, fmt.Sprintf("k%d n%d=%d", i, i%4, i))...)
	}
	return j
}

// with a fault in it.
func with(j api.Journal, fault func(*api.Journal)) api.Journal {
	fault(&j)
	return j
}

// shown is the same of lists that are nil, and of those that are empty.
func shown(a ...any) string { return fmt.Sprintf("%+v", a) }

type fault struct {
	name string
	j    api.Journal
	err  api.Errno
}

// faults: where several errors apply, the one that is named first is wanted.
func faults() []fault {
	full := kept(1, nil)
	for i := range api.MaxEntries {
		full.Base = append(full.Base, of(1, fmt.Sprintf("p%02d=", i))...)
	}
	twoAtTheEnd := func() api.Journal { return kept(api.MaxVersion, nil, "k a=1", "l a=2") }
	return []fault{
		{"a path", kept(1, of(1, "?")), api.ErrForm},
		{"a version", kept(1, of(0, "a")), api.ErrRange},
		{"entries", with(full, func(j *api.Journal) { j.Base = append(j.Base, of(1, "q=")...) }), api.ErrMany},
		{"no parent", kept(1, of(1, "a/b")), api.ErrNone},
		{"base, first", kept(0, of(1, "a/b")), api.ErrNone},
		{"nothing", api.Journal{}, api.ErrRange},
		{"first 0", kept(0, nil, "k a=1"), api.ErrRange},
		{"first below 0", kept(-1, nil), api.ErrRange},
		{"first too great", kept(api.MaxVersion+1, nil), api.ErrRange},
		{"first, commits", long(0, 31), api.ErrRange},
		{"commits", long(1, 31), api.ErrMany},
		{"commits, numbers", with(long(1, 31), func(j *api.Journal) { j.First = 2 }), api.ErrMany},
		{"commits of nothing", api.Journal{First: 1, Commits: make([]api.Commit, 31)}, api.ErrMany},
		{"number less than first", with(sample(), func(j *api.Journal) { j.First = 6 }), api.ErrState},
		{"number more than first", with(sample(), func(j *api.Journal) { j.First = 4 }), api.ErrState},
		{"number twice", with(sample(), func(j *api.Journal) { j.Commits[2].Number-- }), api.ErrState},
		{"number left out", with(sample(), func(j *api.Journal) { j.Commits[3].Number++ }), api.ErrState},
		{"number, too great", with(twoAtTheEnd(), func(j *api.Journal) { j.Commits[1].Number-- }), api.ErrState},
		{"number, key", with(kept(1, nil, "? a=1"), func(j *api.Journal) { j.First = 2 }), api.ErrState},
		{"too great", twoAtTheEnd(), api.ErrRange},
		{"too great, key", with(twoAtTheEnd(), func(j *api.Journal) { j.Commits[1].Key = "" }), api.ErrRange},
		{"no key", kept(1, nil, " a=1"), api.ErrForm},
		{"key too long", kept(1, nil, strings.Repeat("k", 21)+" a=1"), api.ErrForm},
		{"key, change", kept(1, nil, "k_ a/b=1"), api.ErrForm},
		{"no changes", kept(1, nil, "k"), api.ErrForm},
		{"no changes, behind some", kept(1, nil, "k a=1", "l"), api.ErrForm},
		{"changes", with(sample(), func(j *api.Journal) { j.Commits[3].Changes = make([]api.Change, 21) }), api.ErrMany},
		{"kind", with(sample(), func(j *api.Journal) { j.Commits[3].Changes[0].Kind = 0 }), api.ErrKind},
		{"change of nothing", kept(1, nil, "k -a"), api.ErrNone},
		{"change of what came before", kept(1, nil, "k +a", "l +a"), api.ErrTwice},
		{"change of what is in base", kept(1, of(1, "a"), "k +a"), api.ErrTwice},
		{"change of what went", kept(1, of(1, "a=1"), "k -a", "l a>b"), api.ErrNone},
		{"the second change", kept(1, nil, "k +a a=1"), api.ErrState},
		{"a base that is too old", with(kept(7, nil, "k a=1", "l a=2"), func(j *api.Journal) { based(j.Commits[1].Changes, 6) }), api.ErrStale},
		{"one entry too many", with(full, func(j *api.Journal) { j.Commits = commits(1, "k q=1") }), api.ErrMany},
		{"one key twice", kept(1, nil, "k a=1", "k a=2"), api.ErrTwice},
		{"one key twice, apart", kept(1, nil, "k a=1", "l a=2", "k a=3"), api.ErrTwice},
		{"one key twice, and all is the same", kept(1, nil, "k a=1", "k a=1"), api.ErrTwice},
		{"a commit ahead of another one", kept(1, nil, "k -a", "?"), api.ErrNone},
		{"a commit's change ahead of the next one's number", with(kept(1, nil, "k -a", "l b=1"), func(j *api.Journal) { j.Commits[1].Number = 7 }), api.ErrNone},
		{"all commits ahead of keys", kept(1, nil, "k a=1", "k a=2", "l"), api.ErrForm},
	}
}

func TestE1Check(t *testing.T) {
	for _, j := range []api.Journal{
		{First: 1}, {First: api.MaxVersion}, {First: 1, Base: []api.Entry{}, Commits: []api.Commit{}},
		sample(), long(1, 30), long(api.MaxVersion-29, 30),
		kept(api.MaxVersion, nil, "k a=1"), kept(1, of(api.MaxVersion, "a=1"), strings.Repeat("k", 20)+" a=2"), kept(1, nil, "k a=1", "K a=1", "kk a=1"),
		with(kept(7, nil, "k a=1", "l a=2"), func(j *api.Journal) { based(j.Commits[1].Changes, 7) }),
		kept(1, nil, "k"+strings.Repeat(" a=1", 20)),
	} {
		if err := journal.Check(j); err != api.OK {
			t.Errorf("%+v: %d", j, err)
		}
	}
	for _, x := range faults() {
		if err := journal.Check(x.j); err != x.err {
			t.Errorf("%s: %d, must be %d", x.name, err, x.err)
		}
	}
}

// E1: the others tell what Check says ahead of what is wrong with all else, and answer nothing then.
func TestE1First(t *testing.T) {
	for _, x := range faults() {
		for _, key := range []string{"new", "k", ""} {
			y, n, err := journal.Commit(x.j, key, nil)
			if got, want := shown(y, n, err), shown(api.Journal{}, 0, x.err); got != want {
				t.Errorf("%s: Commit: %s, must be %s", x.name, got, want)
			}
		}
		for _, cursor := range []int{-1, 0, 5, 99} {
			p, err := journal.Read(x.j, cursor, cursor)
			if got, want := shown(p, err), shown(api.Page{}, x.err); got != want {
				t.Errorf("%s: Read: %s, must be %s", x.name, got, want)
			}
		}
		wantTree(t, x.name, x.j, nil, x.err)
	}
}

func wantTree(t *testing.T, name string, j api.Journal, want []api.Entry, wantErr api.Errno) {
	t.Helper()
	if got, err := journal.Tree(j); !slices.Equal(got, want) || err != wantErr {
		t.Errorf("%s: Tree: %v %d, must be %v %d", name, got, err, want, wantErr)
	}
}

func TestE1Tree(t *testing.T) {
	wantTree(t, "nothing", api.Journal{First: 1}, nil, api.OK)
	wantTree(t, "no commits", kept(9, of(3, "a", "a/x=1")), of(3, "a", "a/x=1"), api.OK)
	for n := range 5 {
		j := sample()
		j.Commits = j.Commits[:n]
		wantTree(t, fmt.Sprint(n, " commits"), j, sampleAt(4+n), api.OK)
	}
}

// wantCommit: the journal that comes, its number, and the error.
func wantCommit(t *testing.T, name string, j api.Journal, key string, l []api.Change, want api.Journal, number int, wantErr api.Errno) {
	t.Helper()
	y, n, err := journal.Commit(j, key, l)
	if got, want := shown(y, n, err), shown(want, number, wantErr); got != want {
		t.Errorf("%s: %s, must be %s", name, got, want)
	}
	if err == api.OK && journal.Check(y) != api.OK {
		t.Errorf("%s: %+v has %d", name, y, journal.Check(y))
	}
}

func TestE2Commit(t *testing.T) {
	one := kept(1, nil, "k1 a=1")
	wantCommit(t, "the first one", api.Journal{First: 1}, "k1", changes("a=1"), one, 1, api.OK)
	if p, err := journal.Read(one, 0, 1); shown(p, err) != shown(api.Page{Commits: one.Commits, Cursor: 1}, api.OK) {
		t.Errorf("a page of one commit: %+v %d", p, err)
	}
	wantCommit(t, "the first one of a later number", kept(9, of(3, "a")), "k", changes("a/x=1 -a"), kept(9, of(3, "a"), "k a/x=1 -a"), 9, api.OK)
	more := sample()
	more.Commits = append(more.Commits, commits(9, "k9 c/x>x +c/y")...)
	wantCommit(t, "one more", sample(), "k9", changes("c/x>x +c/y"), more, 9, api.OK)
	wantCommit(t, "the last number", kept(api.MaxVersion, nil), "k", changes("a=1"), kept(api.MaxVersion, nil, "k a=1"), api.MaxVersion, api.OK)
	wantCommit(t, "the longest key", kept(1, nil), strings.Repeat("k", 20), changes("a=1"), kept(1, nil, strings.Repeat("k", 20)+" a=1"), 1, api.OK)
	wantCommit(t, "the most changes", kept(1, nil), "k", changes(strings.Repeat("a=1 ", 20)), kept(1, nil, "k"+strings.Repeat(" a=1", 20)), 1, api.OK)
	wantCommit(t, "all that is known", sample(), "k9", based(changes("-b"), 7), with(sample(), func(j *api.Journal) {
		j.Commits = append(j.Commits, api.Commit{Number: 9, Key: "k9", Changes: based(changes("-b"), 7)})
	}), 9, api.OK)
}

// E2: of a key that was met nothing else matters, and nothing happens.
func TestE2Again(t *testing.T) {
	for i, key := range []string{"k5", "k6", "k7", "k8"} {
		for _, l := range [][]api.Change{changes("new=1"), changes("a/x=5"), nil, changes("-nothing"), make([]api.Change, 21), based(changes("b=1"), 0)} {
			wantCommit(t, "met", sample(), key, l, sample(), 5+i, api.OK)
		}
	}
	end := kept(api.MaxVersion-1, nil, "k a=1", "l a=2")
	wantCommit(t, "met, at the last number", end, "k", nil, end, api.MaxVersion-1, api.OK)
	full := long(1, 30)
	wantCommit(t, "met, in a journal that is full", full, "k0", changes("a=1"), full, 1, api.OK)
	wantCommit(t, "another one, in great letters", kept(1, nil, "k a=1"), "K", changes("a=2"), kept(1, nil, "k a=1", "K a=2"), 2, api.OK)
}

func TestE2Errors(t *testing.T) {
	atEnd := kept(api.MaxVersion, nil, "k a=1")
	for _, x := range []struct {
		name string
		j    api.Journal
		key  string
		l    []api.Change
		err  api.Errno
	}{
		{"no key", sample(), "", changes("n=1"), api.ErrForm},
		{"key too long", sample(), strings.Repeat("k", 21), changes("n=1"), api.ErrForm},
		{"key of other bytes", sample(), "k 9", changes("n=1"), api.ErrForm},
		{"key, number", atEnd, "k_", changes("n=1"), api.ErrForm},
		{"key, change", sample(), "", changes("-n"), api.ErrForm},
		{"no changes", sample(), "k9", nil, api.ErrForm},
		{"an empty list of them", sample(), "k9", []api.Change{}, api.ErrForm},
		{"no changes, number", atEnd, "l", nil, api.ErrForm},
		{"number", atEnd, "l", changes("n=1"), api.ErrRange},
		{"number, change", atEnd, "l", changes("-n"), api.ErrRange},
		{"number, changes", atEnd, "l", make([]api.Change, 21), api.ErrRange},
		{"number of a full journal", long(api.MaxVersion-29, 30), "l", changes("n=1"), api.ErrRange},
		{"changes", sample(), "k9", make([]api.Change, 21), api.ErrMany},
		{"kind", sample(), "k9", make([]api.Change, 20), api.ErrKind},
		{"form", sample(), "k9", changes("?=1"), api.ErrForm},
		{"what is not there any more", sample(), "k9", changes("-a"), api.ErrNone},
		{"what is there by now", sample(), "k9", changes("+c"), api.ErrTwice},
		{"the second one", sample(), "k9", changes("n=1 c=1"), api.ErrState},
		{"what was changed since", sample(), "k9", based(changes("b=1"), 6), api.ErrStale},
		{"what this one made", sample(), "k9", based(changes("n=1 n=2"), 8), api.ErrStale},
	} {
		wantCommit(t, x.name, x.j, x.key, x.l, api.Journal{}, 0, x.err)
	}
}

// E2: there are MaxCommits at the most; the first one goes then, and its key is not met any more.
func TestE2FirstGoes(t *testing.T) {
	for _, first := range []int{1, 77, api.MaxVersion - 30} {
		full := long(first, 30)
		wantCommit(t, "30", long(first, 29), "k29", changes("n1=29"), full, first+29, api.OK)
		want := long(first, 30)
		want.Base = slices.Concat(of(1, "b=0"), of(first, "n0=0"))
		want.First = first + 1
		want.Commits = append(want.Commits[1:], commits(first+30, "new -b")...)
		wantCommit(t, "31", full, "new", changes("-b"), want, first+30, api.OK)
		wantTree(t, "31", want, slices.Concat(of(first+28, "n0=28"), of(first+29, "n1=29"), of(first+26, "n2=26"), of(first+27, "n3=27")), api.OK)
	}
	j := kept(1, nil)
	for i := range 100 {
		y, n, err := journal.Commit(j, fmt.Sprint("k", i%31), changes(fmt.Sprintf("n=%d", i)))
		first := max(1, i-28)
		if err != api.OK || n != i+1 || y.First != first || len(y.Commits) != i+2-first || (len(y.Base) > 0) != (first > 1) {
			t.Fatalf("%d: %+v %d %d", i, y, n, err)
		}
		if first > 1 && y.Base[0] != of(first-1, fmt.Sprintf("n=%d", first-2))[0] {
			t.Errorf("%d: %v is ahead of %d", i, y.Base, first)
		}
		j = y
	}
}

func TestE3Read(t *testing.T) {
	all := sample().Commits
	reset := api.Page{Reset: true, Tree: sampleAt(8), Cursor: 8}
	empty := kept(5, of(3, "a"))
	for _, x := range []struct {
		j            api.Journal
		cursor, most int
		want         api.Page
		err          api.Errno
	}{
		{sample(), 0, 1, reset, api.OK}, {sample(), 3, 1, reset, api.OK}, {sample(), 3, 10, reset, api.OK},
		{sample(), 4, 1, api.Page{Commits: all[:1], Cursor: 5, More: true}, api.OK},
		{sample(), 4, 3, api.Page{Commits: all[:3], Cursor: 7, More: true}, api.OK},
		{sample(), 4, 4, api.Page{Commits: all, Cursor: 8}, api.OK},
		{sample(), 4, 10, api.Page{Commits: all, Cursor: 8}, api.OK},
		{sample(), 5, 1, api.Page{Commits: all[1:2], Cursor: 6, More: true}, api.OK},
		{sample(), 5, 2, api.Page{Commits: all[1:3], Cursor: 7, More: true}, api.OK},
		{sample(), 7, 1, api.Page{Commits: all[3:], Cursor: 8}, api.OK},
		{sample(), 8, 1, api.Page{Cursor: 8}, api.OK}, {sample(), 8, 10, api.Page{Cursor: 8}, api.OK},
		{sample(), 9, 1, api.Page{}, api.ErrNone}, {sample(), 1 << 62, 1, api.Page{}, api.ErrNone},
		{sample(), 4, 0, api.Page{}, api.ErrRange}, {sample(), 4, -1, api.Page{}, api.ErrRange}, {sample(), 4, 11, api.Page{}, api.ErrRange},
		{sample(), -1, 1, api.Page{}, api.ErrRange}, {sample(), -1 << 62, 1, api.Page{}, api.ErrRange}, {sample(), 0, 11, api.Page{}, api.ErrRange},
		{sample(), 9, 0, api.Page{}, api.ErrRange}, {sample(), 9, 11, api.Page{}, api.ErrRange},
		{empty, 0, 1, api.Page{Reset: true, Tree: of(3, "a"), Cursor: 4}, api.OK}, {empty, 3, 1, api.Page{Reset: true, Tree: of(3, "a"), Cursor: 4}, api.OK},
		{empty, 4, 1, api.Page{Cursor: 4}, api.OK}, {empty, 5, 1, api.Page{}, api.ErrNone},
		{kept(1, nil), 0, 10, api.Page{}, api.OK}, {kept(1, nil), 1, 10, api.Page{}, api.ErrNone}, {kept(2, nil), 0, 10, api.Page{Reset: true, Cursor: 1}, api.OK},
		{long(1, 30), 0, 10, api.Page{Commits: long(1, 30).Commits[:10], Cursor: 10, More: true}, api.OK},
		{long(1, 30), 20, 10, api.Page{Commits: long(1, 30).Commits[20:], Cursor: 30}, api.OK},
		{kept(api.MaxVersion, nil, "k a=1"), api.MaxVersion, 1, api.Page{Cursor: api.MaxVersion}, api.OK},
	} {
		p, err := journal.Read(x.j, x.cursor, x.most)
		if got, want := shown(p, err), shown(x.want, x.err); got != want {
			t.Errorf("%d commits from %d on, read behind %d, %d at most: %s, must be %s", len(x.j.Commits), x.j.First, x.cursor, x.most, got, want)
		}
	}
}

func wantFollow(t *testing.T, name string, known []api.Entry, cursor int, p api.Page, want []api.Entry, wantCursor int, wantErr api.Errno) {
	t.Helper()
	got, n, err := journal.Follow(known, cursor, p)
	if !slices.Equal(got, want) || n != wantCursor || err != wantErr {
		t.Errorf("%s: %v %d %d, must be %v %d %d", name, got, n, err, want, wantCursor, wantErr)
	}
}

func TestE4Follow(t *testing.T) {
	for from := 4; from <= 8; from++ {
		for to := from; to <= 8; to++ {
			for _, more := range []bool{false, true} {
				p := api.Page{Commits: sample().Commits[from-4 : to-4], Cursor: to, More: more}
				wantFollow(t, fmt.Sprintf("from %d to %d", from, to), sampleAt(from), from, p, sampleAt(to), to, api.OK)
			}
		}
	}
	known := of(2, "z=9")
	wantFollow(t, "a reset", known, 99, api.Page{Reset: true, Tree: sampleAt(8), Cursor: 8}, sampleAt(8), 8, api.OK)
	wantFollow(t, "a reset to nothing", known, 99, api.Page{Reset: true}, nil, 0, api.OK)
	wantFollow(t, "a reset to the last cursor", nil, 0, api.Page{Reset: true, Tree: known, Cursor: api.MaxVersion}, known, api.MaxVersion, api.OK)
	wantFollow(t, "nothing new", known, api.MaxVersion, api.Page{Cursor: api.MaxVersion}, known, api.MaxVersion, api.OK)
	wantFollow(t, "lists that are empty", known, 3, api.Page{Tree: []api.Entry{}, Commits: []api.Commit{}, Cursor: 3}, known, 3, api.OK)
	wantFollow(t, "commits that are empty", known, 3, api.Page{Commits: []api.Commit{{Number: 4}}, Cursor: 4}, known, 4, api.OK)
	ten := long(1, 30)
	wantFollow(t, "ten", of(1, "b=0"), 0, api.Page{Commits: ten.Commits[:10], Cursor: 10},
		slices.Concat(of(1, "b=0"), of(9, "n0=8"), of(10, "n1=9"), of(7, "n2=6"), of(8, "n3=7")), 10, api.OK)
}

// on is the page that goes on behind the sample's cursor 5.
func on() api.Page { return api.Page{Commits: sample().Commits[1:3], Cursor: 7, More: true} }

func turned(p api.Page, turn func(*api.Page)) api.Page {
	turn(&p)
	return p
}

// E4: each page has its fault, and most of them another one that is named later.
func TestE4Errors(t *testing.T) {
	noParent := of(1, "a/b")
	eleven := api.Page{Commits: long(6, 11).Commits, Cursor: 16}
	for _, x := range []struct {
		name   string
		t      []api.Entry
		cursor int
		p      api.Page
		err    api.Errno
	}{
		{"tree", of(1, "?"), 5, on(), api.ErrForm},
		{"tree, cursor", noParent, -1, on(), api.ErrNone},
		{"tree, the page's", noParent, 5, api.Page{Reset: true, Tree: of(1, "?")}, api.ErrNone},
		{"tree, form", noParent, 5, api.Page{Reset: true, More: true}, api.ErrNone},
		{"cursor below 0", sampleAt(5), -1, on(), api.ErrRange},
		{"cursor too great", sampleAt(5), api.MaxVersion + 1, on(), api.ErrRange},
		{"cursor, nothing new", nil, -1, api.Page{Cursor: -1}, api.ErrRange},
		{"cursor, nothing new at the end", nil, api.MaxVersion + 1, api.Page{Cursor: api.MaxVersion + 1}, api.ErrRange},
		{"cursor, the page's tree", nil, -1, api.Page{Reset: true, Tree: noParent}, api.ErrRange},
		{"cursor, form", nil, -1, api.Page{Tree: noParent}, api.ErrRange},

		{"reset: tree", nil, 0, api.Page{Reset: true, Tree: of(1, "?")}, api.ErrForm},
		{"reset: tree, cursor", nil, 0, api.Page{Reset: true, Tree: noParent, Cursor: -1}, api.ErrNone},
		{"reset: tree, more", nil, 0, api.Page{Reset: true, Tree: noParent, More: true}, api.ErrNone},
		{"reset: cursor below 0", nil, 0, api.Page{Reset: true, Cursor: -1}, api.ErrRange},
		{"reset: cursor too great", nil, 0, api.Page{Reset: true, Cursor: api.MaxVersion + 1}, api.ErrRange},
		{"reset: cursor, more", nil, 0, api.Page{Reset: true, Cursor: -1, More: true}, api.ErrRange},
		{"reset: more", nil, 0, api.Page{Reset: true, More: true}, api.ErrForm},
		{"reset: commits", sampleAt(5), 5, turned(on(), func(p *api.Page) { p.Reset, p.More = true, false }), api.ErrForm},
		{"reset: a commit", nil, 0, api.Page{Reset: true, Tree: of(1, "a"), Commits: make([]api.Commit, 1), Cursor: 1}, api.ErrForm},

		{"a tree", sampleAt(5), 5, turned(on(), func(p *api.Page) { p.Tree = of(1, "a") }), api.ErrForm},
		{"a tree that is wrong", sampleAt(5), 5, turned(on(), func(p *api.Page) { p.Tree = noParent }), api.ErrForm},
		{"a tree, commits", nil, 5, turned(eleven, func(p *api.Page) { p.Tree = of(1, "a") }), api.ErrForm},
		{"a tree, and nothing new", of(1, "a"), 5, api.Page{Tree: of(1, "a"), Cursor: 5}, api.ErrForm},
		{"commits", nil, 5, eleven, api.ErrMany},
		{"commits, numbers", nil, 6, eleven, api.ErrMany},
		{"numbers ahead of the cursor", sampleAt(4), 4, on(), api.ErrState},
		{"numbers behind the cursor", sampleAt(6), 6, on(), api.ErrState},
		{"a number twice", sampleAt(5), 5, turned(on(), func(p *api.Page) { p.Commits[1].Number-- }), api.ErrState},
		{"a number left out", sampleAt(5), 5, turned(on(), func(p *api.Page) { p.Commits[1].Number++; p.Cursor++ }), api.ErrState},
		{"the page's cursor is less", sampleAt(5), 5, turned(on(), func(p *api.Page) { p.Cursor-- }), api.ErrState},
		{"the page's cursor is more", sampleAt(5), 5, turned(on(), func(p *api.Page) { p.Cursor++ }), api.ErrState},
		{"the cursor of none is more", nil, 5, api.Page{Cursor: 6}, api.ErrState},
		{"the cursor of none is less", nil, 5, api.Page{Cursor: 4}, api.ErrState},
		{"the cursor, changes", nil, 0, api.Page{Commits: commits(1, "k -a"), Cursor: 2}, api.ErrState},
		{"a later number, changes", nil, 0, api.Page{Commits: append(commits(1, "k -a"), commits(3, "l a=1")...), Cursor: 2}, api.ErrState},

		{"a change", nil, 0, api.Page{Commits: commits(1, "k -a"), Cursor: 1}, api.ErrNone},
		{"the first one", nil, 0, api.Page{Commits: commits(1, "k +a", "l +a", "m -b"), Cursor: 3}, api.ErrTwice},
		{"the second change of it", nil, 0, api.Page{Commits: commits(1, "k +a a=1"), Cursor: 1}, api.ErrState},
		{"what this commit made", nil, 0, api.Page{Commits: []api.Commit{{Number: 1, Changes: based(changes("a=1 a=2"), 0)}}, Cursor: 1}, api.ErrStale},
		{"changes", nil, 0, api.Page{Commits: []api.Commit{{Number: 1, Changes: make([]api.Change, 21)}}, Cursor: 1}, api.ErrMany},
		{"a number that is too great", nil, api.MaxVersion, api.Page{Commits: commits(api.MaxVersion+1, "k a=1"), Cursor: api.MaxVersion + 1}, api.ErrRange},
	} {
		wantFollow(t, x.name, x.t, x.cursor, x.p, nil, 0, x.err)
	}
}

// draw: numbers that look like any, and are the same each time.
type draw uint64

func (d *draw) n(n int) int {
	*d = *d*6364136223846793005 + 1442695040888963407
	return int(uint64(*d) >> 33 % uint64(n))
}

// drawn changes, of which many have an error.
func (d *draw) changes() []api.Change {
	at := []string{"a", "a/a", "a/b", "b", "b/a", "c"}
	var out []api.Change
	for range d.n(3) {
		c := api.Change{Kind: 1 + d.n(4), Path: at[d.n(6)], Base: api.Any}
		switch c.Kind {
		case api.ChangeWrite:
			c.Text = fmt.Sprint(d.n(3))
		case api.ChangeMove:
			c.To = at[d.n(6)]
		}
		if d.n(9) == 0 {
			c.Base = d.n(90)
		}
		out = append(out, c)
	}
	return out
}

// E5: the tree at each number is as it was; who reads on from any cursor, with pages of any size, comes to the last one.
func TestE5ReadOn(t *testing.T) {
	d, j := draw(1), kept(1, nil)
	trees := [][]api.Entry{nil}
	made, errors, again := 0, 0, 0
	for i := range 600 {
		key := fmt.Sprint("k", d.n(200))
		there := slices.ContainsFunc(j.Commits, func(c api.Commit) bool { return c.Key == key })
		y, n, err := journal.Commit(j, key, d.changes())
		switch {
		case there && (err != api.OK || shown(y) != shown(j) || j.Commits[n-j.First].Key != key):
			t.Fatalf("%d: again: %+v %d %d", i, y, n, err)
		case there:
			again++
		case err != api.OK:
			errors++
		case n != len(trees):
			t.Fatalf("%d: %d, must be %d", i, n, len(trees))
		default:
			j, made = y, made+1
			last, _ := journal.Tree(j)
			trees = append(trees, last)
			wantReadOn(t, j, trees)
		}
	}
	if made < 60 || errors < 60 || again < 10 {
		t.Errorf("%d were made, %d had an error, %d were asked again: too few to tell", made, errors, again)
	}
}

func wantReadOn(t *testing.T, j api.Journal, trees [][]api.Entry) {
	t.Helper()
	last := len(trees) - 1
	for from := range trees {
		for _, most := range []int{1, 3, 10} {
			known, cursor, pages := trees[from], from, 0
			for more := true; more && pages <= last; pages++ {
				p, err := journal.Read(j, cursor, most)
				if err != api.OK || p.Reset != (from < j.First-1) {
					t.Fatalf("%+v: behind %d: %+v %d", j, cursor, p, err)
				}
				if known, cursor, err = journal.Follow(known, cursor, p); err != api.OK || !slices.Equal(known, trees[cursor]) {
					t.Fatalf("%+v: at %d: %v %d", j, cursor, known, err)
				}
				more = p.More
			}
			if cursor != last || tree.Check(known) != api.OK {
				t.Fatalf("from %d: came to %d, in %d pages", from, cursor, pages)
			}
		}
	}
}

// roomy is a list with spare room behind it.
func roomy[T any](l []T) []T {
	return append(slices.Clone(l), make([]T, 40)...)[:len(l)]
}

// spare: the journal's lists have spare room.
func spare(j api.Journal) api.Journal {
	out := api.Journal{Base: roomy(j.Base), First: j.First, Commits: roomy(j.Commits)}
	for i, c := range out.Commits {
		out.Commits[i].Changes = roomy(c.Changes)
	}
	return out
}

// whole journal, with the room behind its lists.
func whole(j api.Journal) string {
	out := []any{j.Base[:cap(j.Base)], j.First, j.Commits[:cap(j.Commits)]}
	for _, c := range j.Commits {
		out = append(out, c.Changes[:cap(c.Changes)])
	}
	return shown(out...)
}

func spoilCommits(l []api.Commit) {
	for _, c := range l {
		clear(c.Changes[:cap(c.Changes)])
	}
	clear(l[:cap(l)])
}

func spoilTree(l []api.Entry) { clear(l[:cap(l)]) }

// P2: what is handed in is only read, and what comes out is the caller's. P3: the same comes again.
func TestP2P3Memory(t *testing.T) {
	for _, x := range []api.Journal{kept(1, nil), kept(5, of(3, "a")), sample(), long(1, 29), long(1, 30)} {
		j, l := spare(x), roomy(changes("new=1 +n"))
		before := whole(j) + shown(l[:cap(l)])
		for _, key := range []string{"new", "k5", "k0"} {
			y, n, err := journal.Commit(j, key, l)
			was := shown(y, n, err)
			spoilTree(y.Base)
			spoilCommits(y.Commits)
			y, n, err = journal.Commit(j, key, l)
			if err != api.OK || shown(y, n, err) != was {
				t.Errorf("Commit: %+v %d %d, and it was %s", y, n, err, was)
			}
			wantApart(t, y)
		}
		first, _ := journal.Tree(j)
		was := slices.Clone(first)
		spoilTree(first)
		wantTree(t, "again", j, was, api.OK)
		for cursor := range x.First + len(x.Commits) {
			wantMemory(t, j, cursor)
		}
		if got := whole(j) + shown(l[:cap(l)]); got != before {
			t.Errorf("it is %s, and was %s", got, before)
		}
	}
}

// wantApart: a change of one of a journal's lists is not seen in another one.
func wantApart(t *testing.T, j api.Journal) {
	t.Helper()
	for i := range j.Commits {
		rest := shown(j.Commits[i+1:])
		l := j.Commits[i].Changes
		clear(l[:cap(l)])
		if shown(j.Commits[i+1:]) != rest {
			t.Errorf("two lists of changes share memory: %+v", j)
		}
	}
}

func wantMemory(t *testing.T, j api.Journal, cursor int) {
	t.Helper()
	p, err := journal.Read(j, cursor, 10)
	was := shown(p, err)
	known := roomy(of(1, "a", "b=0"))
	before := shown(known[:cap(known)])
	got, _, _ := journal.Follow(known, cursor, p)
	spoilTree(got)
	if shown(known[:cap(known)]) != before || shown(p, err) != was {
		t.Errorf("behind %d: Follow changed %v, or %+v", cursor, known, p)
	}
	spoilTree(p.Tree)
	spoilCommits(p.Commits)
	if p, err := journal.Read(j, cursor, 10); err != api.OK || shown(p, err) != was {
		t.Errorf("behind %d: %+v %d, and it was %s", cursor, p, err, was)
	}
}

// P2: lists that are one and the same when they come in are apart when they come out.
func TestP2OneListTwice(t *testing.T) {
	l := changes("a=1")
	j := api.Journal{First: 1, Commits: []api.Commit{{Number: 1, Key: "k", Changes: l}, {Number: 2, Key: "l", Changes: l}}}
	y, _, _ := journal.Commit(j, "m", l)
	wantApart(t, y)
	p, _ := journal.Read(j, 0, 10)
	wantApart(t, api.Journal{Commits: p.Commits})
}
