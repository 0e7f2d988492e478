package upload

import (
	"tetherpost/api"
	"tetherpost/word"
)

// maxLasts is how long sessions may last at most, maxRoom how many bytes somebody may have open at most.
const (
	maxLasts = 1000000
	maxRoom  = 100000
)

func checkBounds(u api.Uploads) api.Errno {
	if !isFrom(1, u.Lasts, maxLasts) || !isFrom(0, u.Room, maxRoom) || !isFrom(1, u.Next, api.MaxTime) {
		return api.ErrRange
	}
	if len(u.Sessions) > api.MaxSessions {
		return api.ErrMany
	}
	return api.OK
}

func checkSession(s api.Session, next int) api.Errno {
	if !isFrom(1, s.Number, next-1) || !isFrom(0, s.Size, api.MaxFile) || !isFrom(0, s.Till, 2*api.MaxTime) {
		return api.ErrRange
	}
	if err := word.Names(s.Who); err != api.OK {
		return err
	}
	if len(s.Text) > s.Size {
		return api.ErrMany
	}
	return api.OK
}

// isFrom: is n from the least to the most?
func isFrom(least, n, most int) bool { return least <= n && n <= most }

func rises(l []api.Session) bool {
	for i := 1; i < len(l); i++ {
		if l[i-1].Number >= l[i].Number {
			return false
		}
	}
	return true
}

func checkRoom(u api.Uploads) api.Errno {
	for _, s := range u.Sessions {
		if taken(u.Sessions, s.Who) > u.Room {
			return api.ErrFull
		}
	}
	return api.OK
}

// taken room: a session takes all of its size from the beginning on, whatever came of it.
func taken(l []api.Session, who string) int {
	n := 0
	for _, s := range l {
		if s.Who == who {
			n += s.Size
		}
	}
	return n
}
