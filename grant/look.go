package grant

import (
	"slices"

	"tetherpost/api"
)

// every grant of which a function holds, in memory of its own.
func every(l []api.Grant, holds func(api.Grant) bool) []api.Grant {
	out := make([]api.Grant, 0, len(l))
	for _, g := range l {
		if holds(g) {
			out = append(out, g)
		}
	}
	return out
}

func isAny(l []api.Grant, holds func(api.Grant) bool) bool {
	return slices.ContainsFunc(l, holds)
}

func in(folder string) func(api.Grant) bool {
	return func(g api.Grant) bool { return g.Folder == folder }
}

func isOwned(l []api.Grant, folder string) bool {
	return isAny(l, func(g api.Grant) bool { return g.Folder == folder && g.Right == api.RightOwner })
}

// right of somebody in a folder: of grants that pass Check one at most tells it.
func right(l []api.Grant, folder, who string) int {
	i := slices.IndexFunc(l, func(g api.Grant) bool { return g.Folder == folder && g.Who == who })
	if i < 0 {
		return api.RightNone
	}
	return l[i].Right
}

// put a grant in the place of what the same one had in the same folder; of RightNone there is none then.
func put(l []api.Grant, given api.Grant) []api.Grant {
	out := every(l, func(g api.Grant) bool { return compare(g, given) != 0 })
	if given.Right == api.RightNone {
		return out
	}
	out = append(out, given)
	slices.SortFunc(out, compare)
	return out
}
