package grant

import (
	"cmp"

	"tetherpost/api"
	"tetherpost/word"
)

func checkGrant(g api.Grant) api.Errno {
	if err := word.Names(g.Folder, g.Who); err != api.OK {
		return err
	}
	if g.Right < api.RightView || g.Right > api.RightOwner {
		return api.ErrRange
	}
	return api.OK
}

// compare by folder, then by who.
func compare(a, b api.Grant) int {
	return cmp.Or(cmp.Compare(a.Folder, b.Folder), cmp.Compare(a.Who, b.Who))
}

func rises(l []api.Grant) bool {
	for i := 1; i < len(l); i++ {
		if compare(l[i-1], l[i]) >= 0 {
			return false
		}
	}
	return true
}

func checkOwners(l []api.Grant) api.Errno {
	for _, g := range l {
		if !isOwned(l, g.Folder) {
			return api.ErrNone
		}
	}
	return api.OK
}

// checkGive: may somebody give this right, or take it?
func checkGive(l []api.Grant, by string, given api.Grant) api.Errno {
	takes := given.Right == api.RightNone
	ownRight := takes && by == given.Who
	if !ownRight && right(l, given.Folder, by) != api.RightOwner {
		return api.ErrDenied
	}
	if takes && right(l, given.Folder, given.Who) == api.RightNone {
		return api.ErrNone
	}
	return api.OK
}
