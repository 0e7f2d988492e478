package path_test

import (
	"strings"
	"testing"

	"tetherpost/api"
	"tetherpost/path"
)

var (
	long  = strings.Repeat("n", api.MaxName)
	deep  = strings.Repeat("a/", api.MaxDeep-1) + "a"
	wide  = strings.Repeat(long+"/", 3) + long[:17]
	wrong = []string{"", ".", "..", " a", "a ", " ", "a?", "é", "a\x00", "/", "a/", "/a", "a//b", "a/./b", "a/../b", "a/ b", "a /b", long + "n", "a/" + long + "n", "a\\b", "a\nb", "\xff"}
	right = []string{"a", "Z", "0", "-", "_", "...", ".a", "a.", "(", ")", "a b", "a  b", "a/b", "a/a", "ab", "a b/c", "a.b/c.d", long, long + "/x", deep, wide}
	large = []string{deep + "/a", wide + "n", strings.Repeat("a/", 100) + "a"}
)

// wantText fails, if an answer is another one; with an error the text must be empty.
func wantText(t *testing.T, call, got string, err api.Errno, want string, wantErr api.Errno) {
	t.Helper()
	if got != want || err != wantErr {
		t.Errorf("%s: %q %d, must be %q %d", call, got, err, want, wantErr)
	}
}

// checkOf is what Check must say of the paths of the lists above.
func checkOf(p string) api.Errno {
	for _, w := range wrong {
		if p == w {
			return api.ErrForm
		}
	}
	for _, l := range large {
		if p == l {
			return api.ErrMany
		}
	}
	return api.OK
}

func every() []string {
	var all []string
	for _, l := range [][]string{right, wrong, large} {
		all = append(all, l...)
	}
	return all
}

func TestA1Check(t *testing.T) {
	for _, p := range every() {
		if got := path.Check(p); got != checkOf(p) {
			t.Errorf("Check %q: %d, must be %d", p, got, checkOf(p))
		}
	}
}

func TestA1FormAheadOfMany(t *testing.T) {
	for _, p := range []string{deep + "/a/", deep + "/a/?", "?/" + deep, wide + "n ", wide + "n/" + long + "n"} {
		if got := path.Check(p); got != api.ErrForm {
			t.Errorf("Check %q: %d", p, got)
		}
	}
}

func TestA1EachByte(t *testing.T) {
	const letters = "abcdefghijklmnopqrstuvwxyzABCDEFGHIJKLMNOPQRSTUVWXYZ0123456789-_.() "
	for b := range 256 {
		name := "x" + string([]byte{byte(b)}) + "x"
		want := api.ErrForm
		if strings.IndexByte(letters, byte(b)) >= 0 || b == '/' {
			want = api.OK
		}
		if got := path.Check(name); got != want {
			t.Errorf("Check %q: %d, must be %d", name, got, want)
		}
	}
}

// All others tell what Check says, of each path in order, ahead of all else.
func TestA1OthersTellItFirst(t *testing.T) {
	bad := append(append([]string{}, wrong...), large...)
	for _, p := range bad {
		want := checkOf(p)
		s, err := path.Parent(p)
		wantText(t, "Parent "+p, s, err, "", want)
		s, err = path.Name(p)
		wantText(t, "Name "+p, s, err, "", want)
		s, err = path.Aside(p, 0)
		wantText(t, "Aside "+p, s, err, "", want)
		if p != "" {
			s, err = path.Join(p, "/")
			wantText(t, "Join "+p, s, err, "", want)
		}
		for _, q := range every() {
			wantPair(t, p, q, want)
		}
	}
}

// wantPair: p has an error, q may have another one.
func wantPair(t *testing.T, p, q string, want api.Errno) {
	t.Helper()
	if in, err := path.Within(p, q); in || err != want {
		t.Errorf("Within %q %q: %v %d", p, q, in, err)
	}
	if in, err := path.Within("a", p); in || err != want {
		t.Errorf("Within a %q: %v %d", p, in, err)
	}
	s, err := path.Moved(p, q, q)
	wantText(t, "Moved first "+p, s, err, "", want)
	s, err = path.Moved("a", p, q)
	wantText(t, "Moved second "+p, s, err, "", want)
	s, err = path.Moved("a", "b", p)
	wantText(t, "Moved third "+p, s, err, "", want)
}

func TestA2ParentAndName(t *testing.T) {
	for _, x := range [][3]string{
		{"a", "", "a"}, {"a/b", "a", "b"}, {"a/b/c", "a/b", "c"}, {"a b/c d", "a b", "c d"},
		{deep, deep[:len(deep)-2], "a"}, {wide, wide[:62], long[:17]}, {long, "", long}, {"...", "", "..."},
	} {
		s, err := path.Parent(x[0])
		wantText(t, "Parent "+x[0], s, err, x[1], api.OK)
		s, err = path.Name(x[0])
		wantText(t, "Name "+x[0], s, err, x[2], api.OK)
	}
}

func TestA2Join(t *testing.T) {
	for _, x := range []struct {
		p, name, want string
		err           api.Errno
	}{
		{"", "a", "a", api.OK},
		{"", long, long, api.OK},
		{"a", "b", "a/b", api.OK},
		{"a/b", "c d", "a/b/c d", api.OK},
		{deep[2:], "x", deep[2:] + "/x", api.OK},
		{wide[:62], long[:17], wide, api.OK},
		{"a", "", "", api.ErrForm},
		{"", "", "", api.ErrForm},
		{"a", "b/c", "", api.ErrForm},
		{"", "b/c", "", api.ErrForm},
		{"a", "/", "", api.ErrForm},
		{"a", " b", "", api.ErrForm},
		{"a", "..", "", api.ErrForm},
		{"a", long + "n", "", api.ErrForm},
		{deep, "a", "", api.ErrMany},
		{wide[:62], long[:18], "", api.ErrMany},
		{deep, "?", "", api.ErrForm},
		{deep + "/a", "?", "", api.ErrMany},
		{"a/", "?", "", api.ErrForm},
	} {
		s, err := path.Join(x.p, x.name)
		wantText(t, "Join "+x.p+" + "+x.name, s, err, x.want, x.err)
	}
}

func TestA3Within(t *testing.T) {
	for _, x := range []struct {
		p, q string
		want bool
	}{
		{"a", "a", true}, {"a/b", "a", true}, {"a/b/c", "a", true}, {"a/b/c", "a/b", true}, {deep, "a", true}, {deep, deep, true},
		{"a", "a/b", false}, {"ab", "a", false}, {"a b", "a", false}, {"a.b/c", "a", false}, {"b/a", "a", false}, {"b", "a", false}, {"A", "a", false},
	} {
		if got, err := path.Within(x.p, x.q); got != x.want || err != api.OK {
			t.Errorf("Within %q %q: %v %d", x.p, x.q, got, err)
		}
	}
}

func TestA3Moved(t *testing.T) {
	for _, x := range []struct {
		p, from, to, want string
		err               api.Errno
	}{
		{"a", "a", "b", "b", api.OK},
		{"a", "a", "a", "a", api.OK},
		{"a/b", "a", "c", "c/b", api.OK},
		{"a/b/c", "a/b", "d", "d/c", api.OK},
		{"a/b/c", "a", "d/e", "d/e/b/c", api.OK},
		{"a/a/a", "a", "b", "b/a/a", api.OK},
		{"a/b", "a", "a/c", "a/c/b", api.OK},
		{deep, deep[:9], "x", "x/a", api.OK},
		{"b", "a", "c", "", api.ErrNone},
		{"ab", "a", "c", "", api.ErrNone},
		{"a", "a/b", "c", "", api.ErrNone},
		{"b", "a", deep, "", api.ErrNone},
		{"a/b", "a", deep, "", api.ErrMany},
		{"a/b", "a", wide, "", api.ErrMany},
		{"a/" + long[:17], "a", wide[:62], wide, api.OK},
		{"a/" + long[:18], "a", wide[:62], "", api.ErrMany},
	} {
		s, err := path.Moved(x.p, x.from, x.to)
		wantText(t, "Moved "+x.p+", "+x.from+", "+x.to, s, err, x.want, x.err)
	}
}

func TestA4Aside(t *testing.T) {
	for _, x := range []struct {
		p    string
		n    int
		want string
		err  api.Errno
	}{
		{"x/note.txt", 2, "x/note (2).txt", api.OK}, // the document's example 1
		{"a", 1, "a (1)", api.OK},
		{"a", 99, "a (99)", api.OK},
		{"a.b/c", 1, "a.b/c (1)", api.OK},
		{".hid", 1, ".hid (1)", api.OK},
		{".hid.x", 1, ".hid (1).x", api.OK},
		{"x/.hid", 1, "x/.hid (1)", api.OK},
		{"...", 1, ".. (1).", api.OK},
		{"a.", 1, "a (1).", api.OK},
		{"a.b.c", 10, "a.b (10).c", api.OK},
		{"a (1)", 1, "a (1) (1)", api.OK},
		{"a .b", 1, "a  (1).b", api.OK},
		{"a. b", 1, "a (1). b", api.OK},
		{long[:16], 1, long[:16] + " (1)", api.OK},
		{long[:17], 1, long[:16] + " (1)", api.OK},
		{long[:16], 10, long[:15] + " (10)", api.OK},
		{long, 9, long[:16] + " (9)", api.OK},
		{long[:17] + ".xy", 1, long[:13] + " (1).xy", api.OK},
		{long[:15] + " nn", 1, long[:15] + " (1)", api.OK},
		{long[:13] + "   nn", 1, long[:13] + " (1)", api.OK},
		{long[:11] + " .txt", 1, long[:11] + "  (1).txt", api.OK},
		{long[:13] + " .txt", 1, long[:12] + " (1).txt", api.OK},
		{long[:10] + "  x.txt", 1, long[:10] + " (1).txt", api.OK},
		{"nn." + long[:15], 1, "", api.ErrMany},
		{"nn." + long[:14], 1, "n (1)." + long[:14], api.OK},
		{"nn." + long[:14], 10, "", api.ErrMany},
		{"n." + long[:18], 1, "", api.ErrMany},
		{wide, 1, "", api.ErrMany},
		{wide[:76], 1, wide[:76] + " (1)", api.OK},
		{wide[:76], 10, "", api.ErrMany},
		{deep, 1, deep + " (1)", api.OK},
		{"a", 0, "", api.ErrRange},
		{"a", -1, "", api.ErrRange},
		{"a", 100, "", api.ErrRange},
		{"a", -1 << 63, "", api.ErrRange},
		{"a", 1<<63 - 1, "", api.ErrRange},
		{wide, 0, "", api.ErrRange},
		{"n." + long[:18], 0, "", api.ErrRange},
	} {
		s, err := path.Aside(x.p, x.n)
		wantText(t, "Aside "+x.p, s, err, x.want, x.err)
	}
}

// Whatever goes aside is at a path, in the same folder, and at another one for each n.
func TestA4AsideIsAPath(t *testing.T) {
	blanks := []string{long[:12] + "     .b", "a  b  c  d  e  f  g", ". a                b", "..  .          x"}
	for _, p := range append(blanks, right...) {
		folder, _ := path.Parent(p)
		met := map[string]bool{}
		for n := 1; n <= 99; n++ {
			s, err := path.Aside(p, n)
			if err == api.ErrMany && p == wide {
				continue
			}
			if err != api.OK || path.Check(s) != api.OK || met[s] {
				t.Errorf("Aside %q %d: %q %d", p, n, s, err)
			}
			met[s] = true
			if is, _ := path.Parent(s); is != folder {
				t.Errorf("Aside %q %d: %q is in another folder", p, n, s)
			}
		}
	}
}

func TestA5JoinedAgain(t *testing.T) {
	for _, p := range right {
		parent, _ := path.Parent(p)
		name, _ := path.Name(p)
		s, err := path.Join(parent, name)
		wantText(t, "Join again "+p, s, err, p, api.OK)
	}
}

func TestA5MovedThereAndBack(t *testing.T) {
	for _, p := range right {
		for _, from := range right {
			for _, to := range right {
				there, err := path.Moved(p, from, to)
				if err != api.OK {
					continue
				}
				if in, _ := path.Within(there, to); !in {
					t.Errorf("Moved %q %q %q: %q", p, from, to, there)
				}
				back, err := path.Moved(there, to, from)
				wantText(t, "Moved back "+p, back, err, p, api.OK)
			}
		}
	}
}

// P1, P3: whatever comes in, each call ends, has nothing but its error, and answers the same again.
func TestP1P3WhateverComes(t *testing.T) {
	texts := append(every(), strings.Repeat("/", 1<<16), strings.Repeat("n", 1<<16), strings.Repeat("n/", 1<<16)+"n", strings.Repeat("\x00", 100))
	for _, p := range texts {
		for _, q := range texts {
			a := answers(p, q)
			if b := answers(p, q); a != b {
				t.Errorf("%.30q %.30q: %v, then %v", p, q, a, b)
			}
			for _, x := range a.texts {
				if x.err != api.OK && x.text != "" || x.err == api.OK && x.text == "" && x.full {
					t.Errorf("%.30q %.30q: %q %d", p, q, x.text, x.err)
				}
			}
			if a.err != api.OK && a.in {
				t.Errorf("Within %.30q %.30q: true, with %d", p, q, a.err)
			}
		}
	}
}

type answer struct {
	text string
	err  api.Errno
	full bool // may not be empty, if there is no error
}

type answered struct {
	texts [5]answer
	in    bool
	err   api.Errno
}

func answers(p, q string) answered {
	var a answered
	set := func(i int, full bool) func(string, api.Errno) {
		return func(s string, err api.Errno) { a.texts[i] = answer{s, err, full} }
	}
	set(0, false)(path.Parent(p))
	set(1, true)(path.Name(p))
	set(2, true)(path.Join(p, q))
	set(3, true)(path.Moved(p, p, q))
	set(4, true)(path.Aside(p, len(q)))
	a.in, a.err = path.Within(p, q)
	return a
}
