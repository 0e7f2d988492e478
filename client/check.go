package client

import (
	"tetherpost/api"
	"tetherpost/word"
)

// maxWho is how many bytes who has a client may have: so there is room in a key for the name, a '-', and how many keys were made.
const maxWho = 10

func checkNames(who, folder string) api.Errno {
	if err := word.Names(who, folder); err != api.OK {
		return err
	}
	if len(who) > maxWho {
		return api.ErrForm
	}
	return word.Key(who)
}

// checkAsked: what was asked for, and by which key.
func checkAsked(key string, l []api.Change) api.Errno {
	if key != "" {
		if err := word.Key(key); err != api.OK {
			return err
		}
	}
	if (key == "") != (len(l) == 0) {
		return api.ErrState
	}
	if len(l) > api.MaxChanges {
		return api.ErrMany
	}
	return api.OK
}
