package wire_test

import (
	"fmt"
	"reflect"
	"slices"
	"strings"
	"testing"

	"tetherpost/api"
	"tetherpost/wire"
)

const far = api.MaxTime

var (
	most = strings.Repeat("t", 1000)
	long = most + "t"
)

// request has another value in each field.
func request() api.Request {
	return api.Request{Kind: 1, Who: "who", Folder: "folder", Name: "n", Key: "key-1", Text: "a;b", Number: 22, Offset: 333, Base: -1, Changes: changes()}
}

func changes() []api.Change {
	return []api.Change{
		{Kind: 2, Path: "p/q", To: "t", Text: "some text", Base: -1},
		{Kind: 3, Path: "", To: "to", Text: "\x00\xff", Base: 7},
	}
}

const (
	changesText = "2;2;3;p/q1;t9;some text-1;3;0;2;to2;\x00\xff7;"
	requestText = "1;3;who6;folder1;n5;key-13;a;b22;333;-1;" + changesText
	answerText  = "9;5;1;2;1;a1;0;3;3;a/b0;1;x4;2;5;1;k" + changesText + "6;2;kk0;12;1;"
)

// answer has all that there may be, at once.
func answer() api.Answer {
	return api.Answer{Err: api.ErrDenied, Number: 5, Page: api.Page{
		Reset:   true,
		Tree:    []api.Entry{{Path: "a", Folder: true, Version: 3}, {Path: "a/b", Text: "x", Version: 4}},
		Commits: []api.Commit{{Number: 5, Key: "k", Changes: changes()}, {Number: 6, Key: "kk"}},
		Cursor:  12,
		More:    true,
	}}
}

// shown is the same of lists that are nil, and of those that are empty.
func shown(a ...any) string { return strings.ReplaceAll(fmt.Sprintf("%#v", a), "(nil)", "{}") }

func want(t *testing.T, name string, got, want string) {
	t.Helper()
	if got != want {
		t.Errorf("%s: %.300s, must be %.300s", name, got, want)
	}
}

// wantAsk: a request is this text, and is read from it again.
func wantAsk(t *testing.T, r api.Request, text string) {
	t.Helper()
	s, err := wire.Ask(r)
	want(t, "Ask", shown(s, err), shown(text, api.OK))
	q, err := wire.Asked(text)
	want(t, "Asked "+text, shown(q, err), shown(r, api.OK))
}

func wantTell(t *testing.T, a api.Answer, text string) {
	t.Helper()
	s, err := wire.Tell(a)
	want(t, "Tell", shown(s, err), shown(text, api.OK))
	b, err := wire.Told(text)
	want(t, "Told "+text, shown(b, err), shown(a, api.OK))
}

// wantNone: a text is no request, and no answer.
func wantNone(t *testing.T, s string) {
	t.Helper()
	q, err := wire.Asked(s)
	want(t, fmt.Sprintf("Asked %.50q", s), shown(q, err), shown(api.Request{}, api.ErrForm))
	a, err := wire.Told(s)
	want(t, fmt.Sprintf("Told %.50q", s), shown(a, err), shown(api.Answer{}, api.ErrForm))
}

func TestH1Numbers(t *testing.T) {
	for n, text := range map[int]string{
		0: "0", 1: "1", 9: "9", 10: "10", 100: "100", 1000: "1000", 9999: "9999", far: "1099511627776", far - 1: "1099511627775",
		-1: "-1", -9: "-9", -10: "-10", -100: "-100", -far: "-1099511627776", 1 << 32: "4294967296", -1 << 32: "-4294967296",
	} {
		wantAsk(t, api.Request{Number: n}, "0;0;0;0;0;0;"+text+";0;0;0;")
		wantTell(t, api.Answer{Number: n}, "0;"+text+";0;0;0;0;0;")
	}
}

func TestH1Texts(t *testing.T) {
	for _, s := range []string{"", "a", ";", ";;", "1;", "0;0;", "-", "\n", "\x00", "\xff\xfe", "é", "10 bytes..", most, strings.Repeat(";", 999)} {
		text := fmt.Sprintf("%d;%s", len(s), s)
		wantAsk(t, api.Request{Name: s, Key: s}, "0;0;0;"+text+text+"0;0;0;0;0;")
		wantTell(t, api.Answer{Page: api.Page{Tree: []api.Entry{{Path: s, Text: s}}}}, "0;0;0;1;"+text+"0;"+text+"0;0;0;0;")
	}
}

func TestH2Ask(t *testing.T) {
	wantAsk(t, api.Request{}, "0;0;0;0;0;0;0;0;0;0;")
	wantAsk(t, api.Request{Kind: api.AskPage, Who: "a", Folder: "f"}, "2;1;a1;f0;0;0;0;0;0;0;") // the document's example 8
	wantAsk(t, request(), requestText)
	wantAsk(t, api.Request{Changes: make([]api.Change, 20)}, "0;0;0;0;0;0;0;0;0;20;"+strings.Repeat("0;0;0;0;0;", 20))
	s, err := wire.Ask(api.Request{Changes: []api.Change{}})
	want(t, "an empty list", shown(s, err), shown("0;0;0;0;0;0;0;0;0;0;", api.OK))
}

// textsOf a request, and numbersOf it: all that there are.
func textsOf(r *api.Request) []*string {
	l := []*string{&r.Who, &r.Folder, &r.Name, &r.Key, &r.Text}
	return append(l, changeTexts(r.Changes)...)
}

func numbersOf(r *api.Request) []*int {
	l := []*int{&r.Kind, &r.Number, &r.Offset, &r.Base}
	return append(l, changeNumbers(r.Changes)...)
}

func changeTexts(l []api.Change) []*string {
	var out []*string
	for i := range l {
		out = append(out, &l[i].Path, &l[i].To, &l[i].Text)
	}
	return out
}

func changeNumbers(l []api.Change) []*int {
	var out []*int
	for i := range l {
		out = append(out, &l[i].Kind, &l[i].Base)
	}
	return out
}

func answerTexts(a *api.Answer) []*string {
	var out []*string
	for i := range a.Page.Tree {
		out = append(out, &a.Page.Tree[i].Path, &a.Page.Tree[i].Text)
	}
	for i := range a.Page.Commits {
		out = append(out, &a.Page.Commits[i].Key)
		out = append(out, changeTexts(a.Page.Commits[i].Changes)...)
	}
	return out
}

func answerNumbers(a *api.Answer) []*int {
	out := []*int{(*int)(&a.Err), &a.Number, &a.Page.Cursor}
	for i := range a.Page.Tree {
		out = append(out, &a.Page.Tree[i].Version)
	}
	for i := range a.Page.Commits {
		out = append(out, &a.Page.Commits[i].Number)
		out = append(out, changeNumbers(a.Page.Commits[i].Changes)...)
	}
	return out
}

func wantAskErr(t *testing.T, name string, r api.Request, wantErr api.Errno) {
	t.Helper()
	s, err := wire.Ask(r)
	want(t, name, shown(s, err), shown("", wantErr))
}

func wantTellErr(t *testing.T, name string, a api.Answer, wantErr api.Errno) {
	t.Helper()
	s, err := wire.Tell(a)
	want(t, name, shown(s, err), shown("", wantErr))
}

var tooFar = []int{far + 1, -far - 1, 1<<63 - 1, -1 << 63}

// eachFault: each number too far, ahead of it and behind it each text too long, and each text alone.
func eachFault(numbers []*int, texts []*string, wantErr func(name string, err api.Errno)) {
	for i, n := range numbers {
		was := *n
		for _, *n = range tooFar {
			wantErr(fmt.Sprint("number ", i), api.ErrRange)
			eachLong(texts, func(name string) { wantErr(fmt.Sprint("number ", i, ", ", name), api.ErrMany) })
		}
		*n = was
	}
	eachLong(texts, func(name string) { wantErr(name, api.ErrMany) })
}

func eachLong(texts []*string, look func(name string)) {
	for i, s := range texts {
		was := *s
		*s = long
		look(fmt.Sprint("text ", i))
		*s = was
	}
}

func TestH2Errors(t *testing.T) {
	r := request()
	eachFault(numbersOf(&r), textsOf(&r), func(name string, err api.Errno) { wantAskErr(t, name, r, err) })
	wantAsk(t, r, requestText)
	wantAskErr(t, "a text that is much longer", api.Request{Text: strings.Repeat("t", 1<<16)}, api.ErrMany)
	wantAskErr(t, "changes", api.Request{Changes: make([]api.Change, 21)}, api.ErrMany)
	wantAskErr(t, "number, changes", api.Request{Kind: far + 1, Changes: make([]api.Change, 21)}, api.ErrMany)
	wantAskErr(t, "number of a change, changes", api.Request{Changes: append(make([]api.Change, 20), api.Change{Base: far + 1})}, api.ErrMany)
	wantAskErr(t, "the last change", api.Request{Changes: append(make([]api.Change, 19), api.Change{Base: far + 1})}, api.ErrRange)
}

// H2, H3: at the limits all is well, and is read again.
func TestH2H3Limits(t *testing.T) {
	r, a := request(), answer()
	for _, s := range append(textsOf(&r), answerTexts(&a)...) {
		*s = most
	}
	for i, n := range append(numbersOf(&r), answerNumbers(&a)...) {
		*n = []int{far, -far}[i%2]
	}
	s, err := wire.Ask(r)
	q, asked := wire.Asked(s)
	want(t, "Asked", shown(q, err, asked), shown(r, api.OK, api.OK))
	s, err = wire.Tell(a)
	b, told := wire.Told(s)
	want(t, "Told", shown(b, err, told), shown(a, api.OK, api.OK))
}

func TestH3Tell(t *testing.T) {
	wantTell(t, api.Answer{}, "0;0;0;0;0;0;0;")
	wantTell(t, api.Answer{Err: api.ErrFull}, "10;0;0;0;0;0;0;")
	wantTell(t, api.Answer{Err: -1}, "-1;0;0;0;0;0;0;")
	wantTell(t, api.Answer{Page: api.Page{Reset: true}}, "0;0;1;0;0;0;0;")
	wantTell(t, api.Answer{Page: api.Page{More: true}}, "0;0;0;0;0;0;1;")
	wantTell(t, answer(), answerText)
	wantTell(t, api.Answer{Page: api.Page{Tree: make([]api.Entry, 60)}}, "0;0;0;60;"+strings.Repeat("0;0;0;0;", 60)+"0;0;0;")
	full := api.Commit{Changes: make([]api.Change, 20)}
	fullText := "0;0;20;" + strings.Repeat("0;0;0;0;0;", 20)
	wantTell(t, api.Answer{Page: api.Page{Commits: slices.Repeat([]api.Commit{full}, 10)}}, "0;0;0;0;10;"+strings.Repeat(fullText, 10)+"0;0;")
}

func TestH3Errors(t *testing.T) {
	a := answer()
	eachFault(answerNumbers(&a), answerTexts(&a), func(name string, err api.Errno) { wantTellErr(t, name, a, err) })
	wantTell(t, a, answerText)
	many := api.Commit{Changes: make([]api.Change, 21)}
	for _, p := range []api.Page{
		{Tree: make([]api.Entry, 61)}, {Commits: make([]api.Commit, 11)}, {Commits: []api.Commit{many}}, {Commits: append(make([]api.Commit, 9), many)},
	} {
		wantTellErr(t, "lists", api.Answer{Page: p}, api.ErrMany)
		p.Cursor = far + 1
		wantTellErr(t, "lists, cursor", api.Answer{Err: far + 1, Page: p}, api.ErrMany)
	}
}

// H4: a number that is written in another way is none, wherever it stands.
func TestH4Numbers(t *testing.T) {
	for _, n := range []string{
		"", "-", "00", "01", "-0", "-01", "+0", "+1", "--1", " 1", "1 ", "1_0", "0x1", "1e3", "1.0", "1,", "a", "\x00", "\xd9\xa1", "-00", "0-", "1-",
		"1099511627777", "-1099511627777", "9223372036854775807", "9223372036854775808", "-9223372036854775808", "18446744073709551616", "18446744073709551617", "99999999999999999999",
		strings.Repeat("0", 100), strings.Repeat("9", 1000), "0" + strings.Repeat("1", 20),
	} {
		for _, parts := range [][]string{strings.SplitAfter("0;0;0;0;0;0;0;0;0;0;", ";"), strings.SplitAfter("0;0;0;0;0;0;0;", ";")} {
			for i := range len(parts) - 1 {
				wrong := slices.Clone(parts)
				wrong[i] = n + ";"
				wantNone(t, strings.Join(wrong, ""))
			}
		}
	}
}

// H4: what ends too early, or goes on, is none.
func TestH4Ends(t *testing.T) {
	for _, s := range []string{requestText, answerText, "0;0;0;0;0;0;0;0;0;0;", "0;0;0;0;0;0;0;"} {
		for i := range s {
			if s[:i] != "0;0;0;0;0;0;0;" {
				wantNone(t, s[:i])
			}
		}
		for b := range 256 {
			wantNone(t, s+string([]byte{byte(b)}))
		}
		wantNone(t, s+s)
		wantNone(t, " "+s)
		wantNone(t, s+"0;")
		wantNone(t, s+"0;0;")
	}
}

// H4: what Ask, or Tell, would have an error of is none, though all of it is there.
func TestH4Limits(t *testing.T) {
	zeros := func(n, things int) string { return strings.Repeat("0;", n*things) }
	for _, s := range []string{
		"0;1001;" + long + "0;0;0;0;0;0;0;0;", "0;0;0;0;0;1001;" + long + "0;0;0;0;", "0;0;0;0;0;0;0;0;0;1;0;1001;" + long + "0;0;0;",
		"0;0;0;0;0;0;0;0;0;21;" + zeros(5, 21), "0;0;0;0;0;0;0;0;0;-1;", "0;-1;0;0;0;0;0;0;0;0;", "0;-1;a0;0;0;0;0;0;0;0;",
		"0;0;0;61;" + zeros(4, 61) + "0;0;0;", "0;0;0;0;11;" + zeros(3, 11) + "0;0;", "0;0;0;0;1;0;0;21;" + zeros(5, 21) + "0;0;",
		"0;0;0;-1;0;0;0;", "0;0;0;0;-1;0;0;", "0;0;0;0;1;0;0;-1;0;0;", "0;0;0;1;1001;" + long + "0;0;0;0;0;0;", "0;0;0;0;1;0;1001;" + long + "0;0;0;",
		"0;0;2;0;0;0;0;", "0;0;-1;0;0;0;0;", "0;0;0;0;0;0;2;", "0;0;0;0;0;0;-1;", "0;0;0;1;0;2;0;0;0;0;0;", "0;0;0;1;0;-1;0;0;0;0;0;",
		"0;1000;abc0;0;0;0;0;0;0;0;", "0;0;0;0;0;0;0;0;0;20;", "0;0;0;60;0;0;0;", "0;0;0;0;10;0;0;",
	} {
		wantNone(t, s)
	}
}

// asks, tells: is a text read, and written again just so?
func asks(t *testing.T, s string) bool {
	t.Helper()
	r, err := wire.Asked(s)
	if err != api.OK {
		want(t, fmt.Sprintf("Asked %q", s), shown(r, err), shown(api.Request{}, api.ErrForm))
		return false
	}
	again, err := wire.Ask(r)
	want(t, "Ask again", shown(again, err), shown(s, api.OK))
	return true
}

func tells(t *testing.T, s string) bool {
	t.Helper()
	a, err := wire.Told(s)
	if err != api.OK {
		want(t, fmt.Sprintf("Told %q", s), shown(a, err), shown(api.Answer{}, api.ErrForm))
		return false
	}
	again, err := wire.Tell(a)
	want(t, "Tell again", shown(again, err), shown(s, api.OK))
	return true
}

// H5: whatever is read is what was written: one byte that is another one, is not there, or is there twice, makes another thing of a text, or none.
func TestH5NothingElse(t *testing.T) {
	read := 0
	note := func(is bool) {
		if is {
			read++
		}
	}
	for i := range requestText {
		for b := range 256 {
			note(asks(t, requestText[:i]+string([]byte{byte(b)})+requestText[i+1:]))
			note(asks(t, requestText[:i]+string([]byte{byte(b)})+requestText[i:]))
		}
		note(asks(t, requestText[:i]+requestText[i+1:]))
	}
	for i := range answerText {
		for b := range 256 {
			note(tells(t, answerText[:i]+string([]byte{byte(b)})+answerText[i+1:]))
			note(tells(t, answerText[:i]+string([]byte{byte(b)})+answerText[i:]))
		}
		note(tells(t, answerText[:i]+answerText[i+1:]))
	}
	if read < 1000 {
		t.Errorf("%d were read: too few to tell", read)
	}
}

type draw uint64

func (d *draw) n(n int) int {
	*d = *d*6364136223846793005 + 1442695040888963407
	return int(uint64(*d) >> 33 % uint64(n))
}

func (d *draw) number() int {
	switch d.n(4) {
	case 0:
		return d.n(3) - 1
	case 1:
		return []int{far, -far, 10, -10, 1000}[d.n(5)]
	}
	return d.n(1<<30) - 1<<29
}

func (d *draw) text() string {
	b := make([]byte, []int{0, 1, 9, 10, 11, 50}[d.n(6)])
	for i := range b {
		b[i] = "0123;;-a\x00\xff"[d.n(10)]
	}
	return string(b)
}

func (d *draw) changes() []api.Change {
	var out []api.Change
	for range d.n(4) {
		out = append(out, api.Change{Kind: d.number(), Path: d.text(), To: d.text(), Text: d.text(), Base: d.number()})
	}
	return out
}

// H5: what is asked is read as it was; and no two requests are one text.
func TestH5Asked(t *testing.T) {
	d := draw(1)
	met := map[string]string{}
	for range 2000 {
		r := api.Request{Kind: d.number(), Who: d.text(), Folder: d.text(), Name: d.text(), Key: d.text(), Text: d.text()}
		r.Number, r.Offset, r.Base, r.Changes = d.number(), d.number(), d.number(), d.changes()
		s, err := wire.Ask(r)
		q, asked := wire.Asked(s)
		want(t, "Asked", shown(q, err, asked), shown(r, api.OK, api.OK))
		if was, is := met[s]; is && was != shown(r) {
			t.Errorf("%q is %s, and %s", s, was, shown(r))
		}
		met[s] = shown(r)
	}
}

func TestH5Told(t *testing.T) {
	d := draw(2)
	for range 2000 {
		a := api.Answer{Err: api.Errno(d.number()), Number: d.number()}
		a.Page.Reset, a.Page.Cursor, a.Page.More = d.n(2) == 0, d.number(), d.n(2) == 0
		for range d.n(4) {
			a.Page.Tree = append(a.Page.Tree, api.Entry{Path: d.text(), Folder: d.n(2) == 0, Text: d.text(), Version: d.number()})
		}
		for range d.n(4) {
			a.Page.Commits = append(a.Page.Commits, api.Commit{Number: d.number(), Key: d.text(), Changes: d.changes()})
		}
		s, err := wire.Tell(a)
		b, told := wire.Told(s)
		want(t, "Told", shown(b, err, told), shown(a, api.OK, api.OK))
	}
}

// P1: each call ends, whatever it is handed.
func TestP1WhateverComes(t *testing.T) {
	d := draw(3)
	for range 20000 {
		b := make([]byte, d.n(60))
		for i := range b {
			b[i] = "0;0;0;01;-a2"[d.n(12)]
		}
		asks(t, string(b))
		tells(t, string(b))
	}
	for _, s := range []string{";", "0", "-", "0;", "1;", "9;"} {
		wantNone(t, strings.Repeat(s, 1<<16))
	}
	wantAskErr(t, "many", api.Request{Changes: make([]api.Change, 1<<16)}, api.ErrMany)
	wantTellErr(t, "many", api.Answer{Page: api.Page{Tree: make([]api.Entry, 1<<16)}}, api.ErrMany)
}

// P2: what is handed in is only read, and what comes out is the caller's: no two lists of it share memory. P3: the same comes again.
func TestP2P3Memory(t *testing.T) {
	r, a := request(), answer()
	for range 2 {
		wantAsk(t, r, requestText)
		wantTell(t, a, answerText)
	}
	if !reflect.DeepEqual(r, request()) || !reflect.DeepEqual(a, answer()) {
		t.Errorf("%+v %+v: they were changed", r, a)
	}
	one := api.Answer{Page: api.Page{Commits: []api.Commit{{Changes: changes()}, {Changes: changes()}, {Changes: changes()}}}}
	s, _ := wire.Tell(one)
	for i := range one.Page.Commits {
		b, _ := wire.Told(s)
		l := b.Page.Commits[i].Changes
		l = append(l, api.Change{Kind: 99})
		clear(l[:cap(l)])
		clear(b.Page.Commits[i].Changes)
		b.Page.Commits[i].Changes = changes()
		want(t, "the other lists", shown(b), shown(one))
		b, _ = wire.Told(s)
		want(t, "read again", shown(b), shown(one))
	}
	q, _ := wire.Asked(requestText)
	clear(q.Changes)
	q, _ = wire.Asked(requestText)
	want(t, "read again", shown(q), shown(request()))
}
