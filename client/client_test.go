package client_test

import (
	"fmt"
	"slices"
	"strings"
	"testing"

	"tetherpost/api"
	"tetherpost/brief"
	"tetherpost/client"
	"tetherpost/delta"
)

var of, changes, based = brief.Entries, brief.Changes, brief.Based

// sample: a knows a tree at cursor 5, made 3 keys, and changed two files since: nothing is asked for.
func sample() api.Client {
	return api.Client{
		Who: "a", Folder: "f", Cursor: 5, Keys: 3,
		Base: of(4, "d", "d/x=1", "e=2"),
		Mine: slices.Concat(of(4, "d"), of(1, "d/x=mine"), of(4, "e=2"), of(1, "n=new")),
	}
}

// asked: the sample, which asked for something, and changed one file more since.
func asked() api.Client {
	return with(sample(), func(c *api.Client) {
		c.Key, c.Asked = "a-3", based(changes("d/x=mine n=new"), 5)
		c.Mine[3].Text = "newer"
	})
}

// with something of it changed.
func with(c api.Client, change func(*api.Client)) api.Client {
	change(&c)
	return c
}

// files p10, p11, and so on: as many as there may be.
func files(n int, text string) []api.Entry {
	var t []api.Entry
	for i := range n {
		t = append(t, of(1, fmt.Sprintf("p%d=%s", 10+i, text))...)
	}
	return t
}

// shown is the same of lists that are nil, and of those that are empty.
func shown(a ...any) string { return strings.ReplaceAll(fmt.Sprintf("%#v", a), "(nil)", "{}") }

func want(t *testing.T, name string, got, want string) {
	t.Helper()
	if got != want {
		t.Errorf("%s: %s, must be %s", name, got, want)
	}
}

const long = brief.Long

var noNames = brief.NoNames()

// noKeys are names, but no keys that have room for a number behind them.
var noKeys = []string{"a b", "a.b", "a_b", "(a)", "abcdefghijk", long}

func TestJ1New(t *testing.T) {
	for _, x := range [][2]string{{"a", "f"}, {"a-1", "f g.h"}, {"-", "-"}, {"abcdefghij", long}, {"0123456789", "f"}, {"AZaz09-", "(1)"}} {
		c, err := client.New(x[0], x[1])
		want(t, fmt.Sprint(x), shown(c, err), shown(api.Client{Who: x[0], Folder: x[1]}, api.OK))
	}
	for _, s := range append(noNames, noKeys...) {
		c, err := client.New(s, "f")
		want(t, "who "+s, shown(c, err), shown(api.Client{}, api.ErrForm))
	}
	for _, s := range noNames {
		c, err := client.New("a", s)
		want(t, "folder "+s, shown(c, err), shown(api.Client{}, api.ErrForm))
	}
}

type fault struct {
	name string
	c    api.Client
	err  api.Errno
}

// faults: where several errors apply, the one that is named first is wanted.
func faults() []fault {
	of := func(change func(*api.Client)) api.Client { return with(asked(), change) }
	tree := brief.Entries
	out := []fault{
		{"nothing", api.Client{}, api.ErrForm},
		{"who, base", of(func(c *api.Client) { c.Who, c.Base = "", tree(0, "a") }), api.ErrForm},
		{"folder, base", of(func(c *api.Client) { c.Folder, c.Base = "", tree(0, "a") }), api.ErrForm},
		{"who too long, base", of(func(c *api.Client) { c.Who, c.Base = long, tree(0, "a") }), api.ErrForm},
		{"base", of(func(c *api.Client) { c.Base = tree(0, "a") }), api.ErrRange},
		{"base, mine", of(func(c *api.Client) { c.Base, c.Mine = tree(1, "a/b"), tree(0, "a") }), api.ErrNone},
		{"base, cursor", of(func(c *api.Client) { c.Base, c.Cursor = tree(1, "b", "a"), -1 }), api.ErrState},
		{"entries of base", of(func(c *api.Client) { c.Base = files(61, "") }), api.ErrMany},
		{"mine", of(func(c *api.Client) { c.Mine = tree(1, "?") }), api.ErrForm},
		{"mine, cursor", of(func(c *api.Client) { c.Mine, c.Cursor = tree(1, "a/b"), -1 }), api.ErrNone},
		{"entries of mine", of(func(c *api.Client) { c.Mine = files(61, "") }), api.ErrMany},
		{"cursor below 0", of(func(c *api.Client) { c.Cursor = -1 }), api.ErrRange},
		{"cursor too great", of(func(c *api.Client) { c.Cursor = api.MaxVersion + 1 }), api.ErrRange},
		{"cursor, key", of(func(c *api.Client) { c.Cursor, c.Key = -1, "?" }), api.ErrRange},
		{"keys below 0", of(func(c *api.Client) { c.Keys = -1 }), api.ErrRange},
		{"keys too many", of(func(c *api.Client) { c.Keys = api.MaxVersion + 1 }), api.ErrRange},
		{"keys, key", of(func(c *api.Client) { c.Keys, c.Key = -1, "?" }), api.ErrRange},
		{"keys, asked", of(func(c *api.Client) { c.Keys, c.Asked = -1, nil }), api.ErrRange},
		{"key", of(func(c *api.Client) { c.Key = "a 3" }), api.ErrForm},
		{"key too long", of(func(c *api.Client) { c.Key = long + "n" }), api.ErrForm},
		{"key, nothing asked", of(func(c *api.Client) { c.Key, c.Asked = "/", nil }), api.ErrForm},
		{"key, asked", of(func(c *api.Client) { c.Key, c.Asked = "/", make([]api.Change, 21) }), api.ErrForm},
		{"key, and nothing asked", of(func(c *api.Client) { c.Asked = nil }), api.ErrState},
		{"key, and an empty list", of(func(c *api.Client) { c.Asked = []api.Change{} }), api.ErrState},
		{"asked, and no key", of(func(c *api.Client) { c.Key = "" }), api.ErrState},
		{"many asked, and no key", of(func(c *api.Client) { c.Key, c.Asked = "", make([]api.Change, 21) }), api.ErrState},
		{"many asked", of(func(c *api.Client) { c.Asked = make([]api.Change, 21) }), api.ErrMany},
	}
	for _, s := range append(noNames, noKeys...) {
		out = append(out, fault{"who " + s, of(func(c *api.Client) { c.Who = s }), api.ErrForm})
	}
	for _, s := range noNames {
		out = append(out, fault{"folder " + s, of(func(c *api.Client) { c.Folder = s }), api.ErrForm})
	}
	return out
}

func TestJ1Check(t *testing.T) {
	for i, c := range []api.Client{
		sample(), asked(), {Who: "a", Folder: "f"}, {Who: "abcdefghij", Folder: long, Base: []api.Entry{}, Mine: []api.Entry{}, Asked: []api.Change{}},
		with(sample(), func(c *api.Client) { c.Cursor, c.Keys = api.MaxVersion, api.MaxVersion }), with(sample(), func(c *api.Client) { c.Cursor, c.Keys = 0, 0 }),
		with(asked(), func(c *api.Client) { c.Key = long }), with(asked(), func(c *api.Client) { c.Key, c.Keys = "others-9", 0 }),
		with(asked(), func(c *api.Client) { c.Asked = make([]api.Change, 20) }), with(sample(), func(c *api.Client) { c.Base, c.Mine = files(60, "1"), files(60, "2") }),
	} {
		if err := client.Check(c); err != api.OK {
			t.Errorf("%d: %d", i, err)
		}
	}
	for _, x := range faults() {
		if err := client.Check(x.c); err != x.err {
			t.Errorf("%s: %d, must be %d", x.name, err, x.err)
		}
	}
}

// J1: the others tell what Check says ahead of what is wrong with all else, and answer nothing then.
func TestJ1First(t *testing.T) {
	for _, x := range faults() {
		for _, change := range append(changes("q=1 -q"), api.Change{}) {
			c, err := client.Edit(x.c, change)
			want(t, x.name+": Edit", shown(c, err), shown(api.Client{}, x.err))
		}
		r, err := client.Fetch(x.c)
		want(t, x.name+": Fetch", shown(r, err), shown(api.Request{}, x.err))
		c, r, ok, err := client.Send(x.c)
		want(t, x.name+": Send", shown(c, r, ok, err), shown(api.Client{}, api.Request{}, false, x.err))
		for _, kind := range []int{0, api.AskCommit, api.AskPage} {
			for _, a := range []api.Answer{{}, {Err: api.ErrDenied}, {Page: api.Page{Reset: true}}} {
				c, l, err := client.Hear(x.c, kind, a)
				want(t, x.name+": Hear", shown(c, l, err), shown(api.Client{}, []api.Copy{}, x.err))
			}
		}
	}
}

func TestJ2Edit(t *testing.T) {
	for _, c := range []api.Client{sample(), asked()} {
		tail := c.Mine[2:]
		for _, x := range []struct {
			change string
			mine   []api.Entry
		}{
			{"d/x=more", slices.Concat(of(4, "d"), of(1, "d/x=more"), tail)},
			{"d/y=1", slices.Concat(c.Mine[:2], of(1, "d/y=1"), tail)},
			{"+d/z", slices.Concat(c.Mine[:2], of(1, "d/z"), tail)},
			{"-d", tail},
			{"d>z", slices.Concat(tail, of(1, "z", "z/x=mine"))},
			{"e=2", slices.Concat(c.Mine[:2], of(1, "e=2"), c.Mine[3:])},
		} {
			got, err := client.Edit(c, changes(x.change)[0])
			then := with(c, func(c *api.Client) { c.Mine = x.mine })
			want(t, x.change, shown(got, err), shown(then, api.OK))
		}
	}
}

// J2: a base that is not Any comes first; then what Apply says.
func TestJ2EditErrors(t *testing.T) {
	full := with(sample(), func(c *api.Client) { c.Mine = files(60, "") })
	for _, base := range []int{0, 1, 5, -2, api.MaxVersion, api.MaxVersion + 1, -1 << 63} {
		for _, s := range []string{"q=1", "-q", "?=1", "+d", "d>d/e"} {
			c, err := client.Edit(sample(), based(changes(s), base)[0])
			want(t, fmt.Sprint(s, " ", base), shown(c, err), shown(api.Client{}, api.ErrRange))
		}
		c, err := client.Edit(sample(), api.Change{Base: base})
		want(t, fmt.Sprint("kind ", base), shown(c, err), shown(api.Client{}, api.ErrRange))
	}
	for _, x := range []struct {
		c      api.Client
		change api.Change
		err    api.Errno
	}{
		{sample(), api.Change{Base: api.Any}, api.ErrKind}, {sample(), api.Change{Kind: 5, Path: "?", Base: api.Any}, api.ErrKind}, {sample(), changes("?=1")[0], api.ErrForm}, {sample(), changes("a/a/a/a/a/a/a=1")[0], api.ErrMany},
		{sample(), api.Change{Kind: api.ChangeWrite, Path: "q", To: "r", Base: api.Any}, api.ErrForm}, {sample(), changes("q=" + strings.Repeat("t", 301))[0], api.ErrMany},
		{sample(), changes("q/r=1")[0], api.ErrNone}, {sample(), changes("e/r=1")[0], api.ErrState}, {sample(), changes("d=1")[0], api.ErrState}, {sample(), changes("+n")[0], api.ErrTwice},
		{sample(), changes("-q")[0], api.ErrNone}, {sample(), changes("d>d/e")[0], api.ErrRange}, {sample(), changes("d>n")[0], api.ErrTwice}, {full, changes("q=1")[0], api.ErrMany},
	} {
		c, err := client.Edit(x.c, x.change)
		want(t, fmt.Sprint(x.change), shown(c, err), shown(api.Client{}, x.err))
	}
}

func TestJ2Fetch(t *testing.T) {
	for _, c := range []api.Client{sample(), asked(), {Who: "b-1", Folder: "f (1)"}, {Who: "b", Folder: "f", Cursor: api.MaxVersion}} {
		r, err := client.Fetch(c)
		want(t, c.Who, shown(r, err), shown(api.Request{Kind: api.AskPage, Who: c.Who, Folder: c.Folder, Number: c.Cursor}, api.OK))
	}
}

// wantSend: it is asked for changes, by a key; and the client asked for them.
func wantSend(t *testing.T, name string, c api.Client, keys int, key string, l []api.Change) {
	t.Helper()
	then := with(c, func(c *api.Client) { c.Keys, c.Key, c.Asked = keys, key, l })
	asks := api.Request{Kind: api.AskCommit, Who: c.Who, Folder: c.Folder, Key: key, Changes: l}
	got, r, ok, err := client.Send(c)
	want(t, name, shown(got, r, ok, err), shown(then, asks, true, api.OK))
	if err == api.OK && client.Check(got) != api.OK {
		t.Errorf("%s: no client came: %d", name, client.Check(got))
	}
}

func TestJ3Send(t *testing.T) {
	wantSend(t, "the sample", sample(), 4, "a-4", based(changes("d/x=mine n=new"), 5))
	all := with(sample(), func(c *api.Client) { c.Mine = of(1, "d=1", "e", "e/y=2") })
	wantSend(t, "all is something else", all, 4, "a-4", based(changes("-d -e d=1 +e e/y=2"), 5))
	wantSend(t, "all is gone", with(sample(), func(c *api.Client) { c.Mine = nil }), 4, "a-4", based(changes("-d -e"), 5))
	wantSend(t, "at first", api.Client{Who: "b-b", Folder: "g", Mine: of(1, "x=1")}, 1, "b-b-1", based(changes("x=1"), 0))
	last := with(sample(), func(c *api.Client) { c.Who, c.Cursor, c.Keys = "abcdefghij", api.MaxVersion, api.MaxVersion-1 })
	wantSend(t, "the last key", last, api.MaxVersion, "abcdefghij-1000000", based(changes("d/x=mine n=new"), api.MaxVersion))
}

// J3: no more than MaxChanges are asked for at once, the first ones.
func TestJ3Many(t *testing.T) {
	for _, n := range []int{19, 20, 21, 60} {
		c := api.Client{Who: "a", Folder: "f", Mine: files(n, "1"), Cursor: 7}
		l, _ := delta.Diff(nil, c.Mine)
		wantSend(t, fmt.Sprint(n, " files"), c, 1, "a-1", based(l[:min(n, 20)], 7))
	}
	turned := api.Client{Who: "a", Folder: "f", Base: files(15, "1"), Mine: of(1, "q", "q/1=", "q/2=", "q/3=", "q/4=", "q/5=")}
	l, _ := delta.Diff(turned.Base, turned.Mine)
	wantSend(t, "deleted and made", turned, 1, "a-1", based(l[:20], 0))
}

// J3: what was asked for, and not heard of, is asked for again by the same key, whatever was changed since.
func TestJ3Again(t *testing.T) {
	wantSend(t, "asked", asked(), 3, "a-3", asked().Asked)
	wantSend(t, "asked, and changed back", with(asked(), func(c *api.Client) { c.Mine = c.Base }), 3, "a-3", asked().Asked)
	wantSend(t, "asked, and it knows more by now", with(asked(), func(c *api.Client) { c.Cursor = 9 }), 3, "a-3", asked().Asked)
	wantSend(t, "asked by the last key", with(asked(), func(c *api.Client) { c.Keys = api.MaxVersion }), api.MaxVersion, "a-3", asked().Asked)
	wantSend(t, "asked by another key", with(asked(), func(c *api.Client) { c.Key = long }), 3, long, asked().Asked)
	c, first, _, _ := client.Send(sample())
	for range 3 {
		d, again, ok, err := client.Send(c)
		want(t, "asked again", shown(d, again, ok, err), shown(c, first, true, api.OK))
	}
}

// J3: if nothing parts the trees, but versions, nothing is asked for, and no key is made.
func TestJ3Nothing(t *testing.T) {
	for i, c := range []api.Client{
		{Who: "a", Folder: "f"}, with(sample(), func(c *api.Client) { c.Mine = c.Base }), with(sample(), func(c *api.Client) { c.Mine = of(1, "d", "d/x=1", "e=2") }),
		with(sample(), func(c *api.Client) { c.Mine, c.Keys = c.Base, api.MaxVersion }),
	} {
		got, r, ok, err := client.Send(c)
		want(t, fmt.Sprint(i), shown(got, r, ok, err), shown(c, api.Request{}, false, api.OK))
	}
}

func TestJ3Errors(t *testing.T) {
	c, r, ok, err := client.Send(with(sample(), func(c *api.Client) { c.Keys = api.MaxVersion }))
	want(t, "no key is left", shown(c, r, ok, err), shown(api.Client{}, api.Request{}, false, api.ErrRange))
}

// The document's example: a client that wrote one file sends it by a-1, with base 0.
func TestJ3Example(t *testing.T) {
	c, _ := client.New("a", "f")
	c, err := client.Edit(c, changes("x=1")[0])
	want(t, "written", shown(c.Mine, err), shown(of(1, "x=1"), api.OK))
	_, r, ok, err := client.Send(c)
	want(t, "sent", shown(r.Key, r.Changes, ok, err), shown("a-1", based(changes("x=1"), 0), true, api.OK))
}

// J4: whatever is answered to AskCommit, it was heard of: nothing is asked for any more.
func TestJ4Commit(t *testing.T) {
	for _, a := range []api.Answer{{}, {Number: 6}, {Err: api.ErrStale}, {Err: api.ErrDenied}, {Err: -7}, {Page: api.Page{Reset: true, Cursor: 99}}, {Page: api.Page{Cursor: -1}}} {
		c, l, err := client.Hear(asked(), api.AskCommit, a)
		want(t, fmt.Sprint(a), shown(c, l, err), shown(with(asked(), func(c *api.Client) { c.Key, c.Asked = "", nil }), []api.Copy{}, api.OK))
		c, l, err = client.Hear(sample(), api.AskCommit, a)
		want(t, fmt.Sprint(a), shown(c, l, err), shown(sample(), []api.Copy{}, api.OK))
	}
}

// page behind a cursor, of some commits.
func page(cursor int, l ...string) api.Page {
	return api.Page{Commits: brief.Commits(cursor+1, l...), Cursor: cursor + len(l)}
}

func TestJ4Page(t *testing.T) {
	mine := sample().Mine
	for _, x := range []struct {
		name       string
		p          api.Page
		base, mine []api.Entry
		cursor     int
		copies     []api.Copy
	}{
		{"nothing new", page(5), sample().Base, mine, 5, nil},
		{"something else", page(5, "k6 y=6"), append(sample().Base, of(6, "y=6")...), append(sample().Mine, of(6, "y=6")...), 6, nil},
		{"what it did not change", page(5, "k6 e=6", "k7 +z"), slices.Concat(of(4, "d", "d/x=1"), of(6, "e=6"), of(7, "z")), slices.Concat(mine[:2], of(6, "e=6"), mine[3:], of(7, "z")), 7, nil},
		{"what it did not change is gone", page(5, "k6 -e"), of(4, "d", "d/x=1"), slices.Concat(mine[:2], mine[3:]), 6, nil},
		{"what it changed alike", page(5, "a-3 d/x=mine n=new"), slices.Concat(of(4, "d"), of(6, "d/x=mine"), of(4, "e=2"), of(6, "n=new")), slices.Concat(of(4, "d"), of(6, "d/x=mine"), of(4, "e=2"), of(6, "n=new")), 6, nil},
		{"what it changed", page(5, "k6 d/x=theirs"), slices.Concat(of(4, "d"), of(6, "d/x=theirs"), of(4, "e=2")), slices.Concat(of(4, "d"), of(6, "d/x=theirs"), of(1, "d/x (1)=mine"), mine[2:]), 6, []api.Copy{{Path: "d/x", At: "d/x (1)"}}},
		{"what it made", page(5, "k6 n=1", "k7 n=2"), append(sample().Base, of(7, "n=2")...), slices.Concat(mine[:3], of(7, "n=2"), of(1, "n (1)=new")), 7, []api.Copy{{Path: "n", At: "n (1)"}}},
		{"what it changed is gone", page(5, "k6 -d"), of(4, "e=2"), mine, 6, nil},
		{"a reset", api.Page{Reset: true, Tree: of(9, "e=2", "y=9"), Cursor: 9}, of(9, "e=2", "y=9"), slices.Concat(mine[:2], of(9, "e=2"), mine[3:], of(9, "y=9")), 9, nil},
		{"a reset to nothing", api.Page{Reset: true, Cursor: api.MaxVersion}, nil, slices.Concat(mine[:2], mine[3:]), api.MaxVersion, nil},
		{"a reset to the same cursor", api.Page{Reset: true, Tree: of(5, "n=theirs"), Cursor: 5}, of(5, "n=theirs"), slices.Concat(mine[:2], of(5, "n=theirs"), of(1, "n (1)=new")), 5, []api.Copy{{Path: "n", At: "n (1)"}}},
		{"there is more", more(page(5, "k6 y=6")), append(sample().Base, of(6, "y=6")...), append(sample().Mine, of(6, "y=6")...), 6, nil},
	} {
		for _, c := range []api.Client{sample(), with(sample(), func(c *api.Client) { c.Key, c.Asked = "a-3", changes("q=1") })} {
			then := with(c, func(c *api.Client) { c.Base, c.Mine, c.Cursor = x.base, x.mine, x.cursor })
			got, l, err := client.Hear(c, api.AskPage, api.Answer{Number: 99, Page: x.p})
			want(t, x.name, shown(got, l, err), shown(then, x.copies, api.OK))
		}
	}
}

func more(p api.Page) api.Page {
	p.More = true
	return p
}

func TestJ4Errors(t *testing.T) {
	full := with(sample(), func(c *api.Client) { c.Mine = files(60, "1") })
	for _, x := range []struct {
		name string
		c    api.Client
		kind int
		a    api.Answer
		err  api.Errno
	}{
		{"kind", sample(), 0, api.Answer{}, api.ErrKind}, {"kind", sample(), api.AskGrant, api.Answer{Page: page(5)}, api.ErrKind}, {"kind", sample(), -1 << 63, api.Answer{}, api.ErrKind}, {"kind", sample(), api.AskMake, api.Answer{}, api.ErrKind},
		{"kind, answer", sample(), 3, api.Answer{Err: api.ErrDenied}, api.ErrKind}, {"kind, reset", sample(), 0, api.Answer{Page: api.Page{Reset: true}}, api.ErrKind},
		{"answer", sample(), api.AskPage, api.Answer{Err: api.ErrDenied}, api.ErrDenied}, {"answer", sample(), api.AskPage, api.Answer{Err: api.ErrNone, Page: page(5, "k y=1")}, api.ErrNone}, {"answer of another number", sample(), api.AskPage, api.Answer{Err: 99, Page: page(5)}, 99}, {"answer below 0", sample(), api.AskPage, api.Answer{Err: -1, Page: page(5)}, -1},
		{"answer, reset", sample(), api.AskPage, api.Answer{Err: api.ErrDenied, Page: api.Page{Reset: true}}, api.ErrDenied},
		{"an older reset", sample(), api.AskPage, api.Answer{Page: api.Page{Reset: true, Cursor: 4}}, api.ErrState}, {"an older reset, tree", sample(), api.AskPage, api.Answer{Page: api.Page{Reset: true, Cursor: 0, Tree: of(0, "a")}}, api.ErrState}, {"an older reset, range", sample(), api.AskPage, api.Answer{Page: api.Page{Reset: true, Cursor: -1}}, api.ErrState},
		{"a reset's tree", sample(), api.AskPage, api.Answer{Page: api.Page{Reset: true, Cursor: 9, Tree: of(1, "a/b")}}, api.ErrNone}, {"a reset's cursor", sample(), api.AskPage, api.Answer{Page: api.Page{Reset: true, Cursor: api.MaxVersion + 1}}, api.ErrRange}, {"a reset with commits", sample(), api.AskPage, api.Answer{Page: api.Page{Reset: true, Cursor: 6, Commits: page(5, "k y=1").Commits}}, api.ErrForm},
		{"an older page", sample(), api.AskPage, api.Answer{Page: page(4, "k5 y=1")}, api.ErrState}, {"an older page of none", sample(), api.AskPage, api.Answer{Page: page(4)}, api.ErrState}, {"a later page", sample(), api.AskPage, api.Answer{Page: page(6, "k7 y=1")}, api.ErrState}, {"a later page of none", sample(), api.AskPage, api.Answer{Page: page(99)}, api.ErrState},
		{"a tree", sample(), api.AskPage, api.Answer{Page: api.Page{Tree: of(1, "a"), Cursor: 5}}, api.ErrForm}, {"commits", sample(), api.AskPage, api.Answer{Page: api.Page{Commits: make([]api.Commit, 11)}}, api.ErrMany},
		{"a commit that cannot be", sample(), api.AskPage, api.Answer{Page: page(5, "k6 -q")}, api.ErrNone}, {"a commit on what is its own", sample(), api.AskPage, api.Answer{Page: page(5, "k6 n>m")}, api.ErrNone},
		{"too much at once", full, api.AskPage, api.Answer{Page: page(5, "k6 y=1")}, api.ErrMany},
	} {
		for _, c := range []api.Client{x.c, with(x.c, func(c *api.Client) { c.Key, c.Asked = "a-3", changes("q=1") })} {
			got, l, err := client.Hear(c, x.kind, x.a)
			want(t, x.name, shown(got, l, err), shown(api.Client{}, []api.Copy{}, x.err))
		}
	}
}
