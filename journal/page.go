package journal

import (
	"slices"

	"tetherpost/api"
	"tetherpost/tree"
)

// checkKnown: may somebody know this tree at this cursor?
func checkKnown(t []api.Entry, cursor int) api.Errno {
	if err := tree.Check(t); err != api.OK {
		return err
	}
	if cursor < 0 || cursor > api.MaxVersion {
		return api.ErrRange
	}
	return api.OK
}

// reset to what a page has: whatever was known, and since when, is no matter.
func reset(p api.Page) ([]api.Entry, int, api.Errno) {
	if err := checkKnown(p.Tree, p.Cursor); err != api.OK {
		return nil, 0, err
	}
	if len(p.Commits) > 0 || p.More {
		return nil, 0, api.ErrForm
	}
	return slices.Clone(p.Tree), p.Cursor, api.OK
}

// checkOn: does a page that is no Reset go on from a cursor?
func checkOn(p api.Page, cursor int) api.Errno {
	if len(p.Tree) > 0 {
		return api.ErrForm
	}
	if len(p.Commits) > api.MaxPage {
		return api.ErrMany
	}
	for _, c := range p.Commits {
		cursor++
		if c.Number != cursor {
			return api.ErrState
		}
	}
	if p.Cursor != cursor {
		return api.ErrState
	}
	return api.OK
}
