package client

import (
	"strconv"

	"tetherpost/api"
	"tetherpost/delta"
	"tetherpost/journal"
	"tetherpost/merge"
)

// asking for what parts Mine from Base, by a new key; the client as it is, if nothing does. The changes were made on what it knows at Cursor: so the hub tells, if there were others since.
func asking(c api.Client) (api.Client, api.Errno) {
	l, err := delta.Diff(c.Base, c.Mine)
	if err != api.OK || len(l) == 0 {
		return c, err
	}
	if c.Keys >= api.MaxVersion {
		return api.Client{}, api.ErrRange
	}
	l = l[:min(len(l), api.MaxChanges)]
	for i := range l {
		l[i].Base = c.Cursor
	}
	c.Keys++
	c.Key = c.Who + "-" + strconv.Itoa(c.Keys)
	c.Asked = l
	return c, api.OK
}

// turn to what a page tells, with what the client changed itself put together with that.
func turn(c api.Client, a api.Answer) (api.Client, []api.Copy, api.Errno) {
	if a.Err != api.OK {
		return api.Client{}, nil, a.Err
	}
	// A page that comes late may be older than what the client knows by now.
	if a.Page.Reset && a.Page.Cursor < c.Cursor {
		return api.Client{}, nil, api.ErrState
	}
	theirs, cursor, err := journal.Follow(c.Base, c.Cursor, a.Page)
	if err != api.OK {
		return api.Client{}, nil, err
	}
	mine, copies, err := merge.Merge(c.Base, c.Mine, theirs)
	if err != api.OK {
		return api.Client{}, nil, err
	}
	c.Base, c.Mine, c.Cursor = theirs, mine, cursor
	return c, copies, api.OK
}
