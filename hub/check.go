package hub

import (
	"slices"
	"strings"

	"tetherpost/api"
	"tetherpost/grant"
	"tetherpost/journal"
	"tetherpost/own"
	"tetherpost/upload"
	"tetherpost/word"
)

// server of a hub that is its own, for one request. It knows which folders the grants tell of, and where these are.
type server struct {
	api.Hub
	told map[string]int
}

// serving a hub that passes Check: who checks it comes to its folders on the way, so that no other call need do it again.
func serving(h api.Hub) (*server, api.Errno) {
	s := &server{Hub: h, told: map[string]int{}}
	if s.Now < 0 || s.Now > api.MaxTime {
		return nil, api.ErrRange
	}
	if err := checkFolders(s.Folders); err != api.OK {
		return nil, err
	}
	if err := grant.Check(s.Grants); err != api.OK {
		return nil, err
	}
	if err := s.tell(); err != api.OK {
		return nil, err
	}
	if err := upload.Check(s.Uploads); err != api.OK {
		return nil, err
	}
	s.Hub = own.Hub(h)
	return s, api.OK
}

func checkFolders(l []api.Shared) api.Errno {
	if len(l) > api.MaxFolders {
		return api.ErrMany
	}
	for _, f := range l {
		if err := word.Names(f.Name); err != api.OK {
			return err
		}
		if err := journal.Check(f.Journal); err != api.OK {
			return err
		}
	}
	for i := 1; i < len(l); i++ {
		if l[i-1].Name >= l[i].Name {
			return api.ErrState
		}
	}
	return api.OK
}

// tell which folders there are by the grants: ErrNone, if one that they tell of is not there, or they do not tell of one.
func (s *server) tell() api.Errno {
	for _, g := range s.Grants {
		i, is := s.place(g.Folder)
		if !is {
			return api.ErrNone
		}
		s.told[g.Folder] = i
	}
	if len(s.told) < len(s.Folders) {
		return api.ErrNone
	}
	return api.OK
}

// place among the folders, which rise: where one of this name is, or would be.
func (s *server) place(name string) (int, bool) {
	return slices.BinarySearchFunc(s.Folders, name, func(f api.Shared, name string) int {
		return strings.Compare(f.Name, name)
	})
}
