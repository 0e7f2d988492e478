package spot_test

import (
	"slices"
	"testing"

	"tetherpost/api"
	"tetherpost/spot"
)

func TestOf(t *testing.T) {
	s := spot.Of([]api.Entry{{Path: "a", Folder: true, Version: 3}, {Path: "a b", Version: 4}, {Path: "a/b", Text: "x", Version: 5}})
	want := spot.Spots{"a": {What: spot.Folder, Version: 3}, "a b": {What: spot.File, Version: 4}, "a/b": {What: spot.File, Text: "x", Version: 5}}
	for p, w := range want {
		if s[p] != w {
			t.Errorf("%q: %v, must be %v", p, s[p], w)
		}
	}
	if got := s.Paths(); !slices.Equal(got, []string{"a", "a b", "a/b"}) {
		t.Errorf("the paths are %q", got)
	}
	if s["b"].What != spot.Nothing || len(spot.Of(nil).Paths()) != 0 {
		t.Errorf("something is where nothing is")
	}
}

func TestLike(t *testing.T) {
	all := []spot.Spot{{}, {What: spot.Folder}, {What: spot.File}, {What: spot.File, Text: "x"}, {What: spot.File, Text: "y"}}
	for i, a := range all {
		for k, b := range all {
			b.Version = a.Version + 1
			if a.Like(b) != (i == k) {
				t.Errorf("%v, %v: %v", a, b, a.Like(b))
			}
		}
	}
}
