package hub

import (
	"slices"

	"tetherpost/api"
	"tetherpost/grant"
	"tetherpost/journal"
	"tetherpost/upload"
	"tetherpost/word"
)

// answer to a request: an error is told in it alone, and has changed nothing.
func (s *server) answer(r api.Request) api.Answer {
	if err := s.check(r); err != api.OK {
		return api.Answer{Err: err}
	}
	var a api.Answer
	if r.Kind == api.AskPage {
		a.Page, a.Err = s.page(r)
	} else {
		a.Number, a.Err = s.number(r)
	}
	return a
}

// check a request: what may be told of it whatever its kind is.
func (s *server) check(r api.Request) api.Errno {
	if r.Kind < api.AskCommit || r.Kind > api.AskMake {
		return api.ErrKind
	}
	if err := word.Names(r.Who); err != api.OK {
		return err
	}
	// Of a folder whose name is none there is an error, and RightNone with it.
	if right, _ := grant.Right(s.Grants, r.Folder, r.Who); right < least(r.Kind) {
		return api.ErrDenied
	}
	return api.OK
}

// least right in its folder that a kind of request asks for. (Who makes a folder has none there yet, and a piece of an upload is of no folder.)
func least(kind int) int {
	switch kind {
	case api.AskCommit, api.AskFinish:
		return api.RightEdit
	case api.AskPage, api.AskGrant:
		return api.RightView
	}
	return api.RightNone
}

func (s *server) page(r api.Request) (api.Page, api.Errno) {
	return journal.Read(s.journal(r.Folder), r.Number, api.MaxPage)
}

// journal of a folder in which somebody has a right: so it is there.
func (s *server) journal(folder string) api.Journal { return s.Folders[s.told[folder]].Journal }

// number that is the answer to a request of each kind but AskPage.
func (s *server) number(r api.Request) (int, api.Errno) {
	switch r.Kind {
	case api.AskMake:
		return 0, s.makeFolder(r)
	case api.AskGrant:
		return 0, s.give(r)
	case api.AskCommit:
		return s.commit(r, r.Changes)
	case api.AskOpen:
		return s.take(upload.Open(s.Uploads, r.Who, r.Number, s.Now))
	case api.AskAppend:
		return s.take(upload.Append(s.Uploads, r.Who, r.Number, r.Offset, r.Text, s.Now))
	case api.AskQuery:
		return upload.Query(s.Uploads, r.Who, r.Number, s.Now)
	}
	return s.finish(r)
}

func (s *server) makeFolder(r api.Request) api.Errno {
	l, err := grant.Make(s.Grants, r.Folder, r.Who)
	if err != api.OK {
		return err
	}
	if len(s.Folders) >= api.MaxFolders {
		return api.ErrMany
	}
	i, _ := s.place(r.Folder)
	s.Folders = slices.Insert(s.Folders, i, api.Shared{Name: r.Folder, Journal: api.Journal{First: 1}})
	s.Grants = l
	return api.OK
}

func (s *server) give(r api.Request) api.Errno {
	l, err := grant.Give(s.Grants, r.Folder, r.Who, r.Name, r.Number)
	if err == api.OK {
		s.Grants = l
	}
	return err
}

// commit changes in the folder of a request, by its key.
func (s *server) commit(r api.Request, l []api.Change) (int, api.Errno) {
	j, number, err := journal.Commit(s.journal(r.Folder), r.Key, l)
	if err == api.OK {
		s.Folders[s.told[r.Folder]].Journal = j
	}
	return number, err
}

// take what became of the uploads, unless there is an error.
func (s *server) take(u api.Uploads, number int, err api.Errno) (int, api.Errno) {
	if err == api.OK {
		s.Uploads = u
	}
	return number, err
}

// finish an upload: the session goes only if its text was committed.
func (s *server) finish(r api.Request) (int, api.Errno) {
	u, text, err := upload.Finish(s.Uploads, r.Who, r.Number, s.Now)
	if err != api.OK {
		return 0, err
	}
	number, err := s.commit(r, []api.Change{{Kind: api.ChangeWrite, Path: r.Name, Text: text, Base: r.Base}})
	return s.take(u, number, err)
}
