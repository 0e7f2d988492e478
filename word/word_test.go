package word_test

import (
	"strings"
	"testing"

	"tetherpost/api"
	"tetherpost/word"
)

const letters = "abcdefghijklmnopqrstuvwxyzABCDEFGHIJKLMNOPQRSTUVWXYZ0123456789"

// errForm is what is told of a text that is none.
func errForm(is bool) api.Errno {
	if is {
		return api.OK
	}
	return api.ErrForm
}

func TestE1Key(t *testing.T) {
	for b := range 256 {
		one := string([]byte{byte(b)})
		want := errForm(strings.Contains(letters+"-", one))
		for _, s := range []string{one, "k" + one, one + "k", "k" + one + "k"} {
			if got := word.Key(s); got != want {
				t.Errorf("%q: %d, must be %d", s, got, want)
			}
		}
	}
	for n := range 30 {
		if got, want := word.Key(strings.Repeat("k", n)), errForm(n >= 1 && n <= 20); got != want {
			t.Errorf("%d bytes: %d, must be %d", n, got, want)
		}
	}
}

func TestF1Names(t *testing.T) {
	for b := range 256 {
		one := string([]byte{byte(b)})
		if got, want := word.Names("n"+one+"n"), errForm(strings.Contains(letters+"-_.() ", one)); got != want {
			t.Errorf("%q: %d, must be %d", one, got, want)
		}
	}
	for n := range 100 {
		if got, want := word.Names(strings.Repeat("n", n)), errForm(n >= 1 && n <= 20); got != want {
			t.Errorf("%d bytes: %d, must be %d", n, got, want)
		}
	}
	for _, s := range []string{"", ".", "..", " n", "n ", "/", "n/n", "/n", "n/", "n/n/n/n/n/n/n"} {
		for _, l := range [][]string{{s}, {s, "n"}, {"n", s}, {"n", "n", s}, {s, s}} {
			if got := word.Names(l...); got != api.ErrForm {
				t.Errorf("%q: %d", l, got)
			}
		}
	}
	for _, l := range [][]string{nil, {"n"}, {"n", "n"}, {"...", "a b", "(1)"}} {
		if got := word.Names(l...); got != api.OK {
			t.Errorf("%q: %d", l, got)
		}
	}
}
