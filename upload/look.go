package upload

import (
	"slices"

	"tetherpost/api"
	"tetherpost/word"
)

// going on at a time: what all calls but Check begin with: the uploads, in memory of their own, without those that are over. (Sweep has nobody who asks.)
func going(u api.Uploads, now int, who ...string) (api.Uploads, api.Errno) {
	if err := Check(u); err != api.OK {
		return api.Uploads{}, err
	}
	if !isFrom(0, now, api.MaxTime) {
		return api.Uploads{}, api.ErrRange
	}
	if err := word.Names(who...); err != api.OK {
		return api.Uploads{}, err
	}
	u.Sessions = slices.DeleteFunc(slices.Clone(u.Sessions), func(s api.Session) bool { return s.Till < now })
	return u, api.OK
}

// find somebody's session among those that are going on: where it is. Another one's is told of as one that is not there.
func find(u api.Uploads, who string, number, now int) (api.Uploads, int, api.Errno) {
	g, err := going(u, now, who)
	if err != api.OK {
		return api.Uploads{}, 0, err
	}
	i := slices.IndexFunc(g.Sessions, func(s api.Session) bool { return s.Number == number && s.Who == who })
	if i < 0 {
		return api.Uploads{}, 0, api.ErrNone
	}
	return g, i, api.OK
}

// ends: is a piece just what a text has from an offset on, up to its end? (An empty piece at the end is.)
func ends(text string, offset int, piece string) bool {
	return isFrom(0, offset, len(text)) && text[offset:] == piece
}
