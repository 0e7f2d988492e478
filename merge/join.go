package merge

import (
	"maps"

	"tetherpost/api"
	"tetherpost/path"
	"tetherpost/spot"
)

// lastAside is the last number that is tried for what goes aside.
const lastAside = 99

// joining of two sides: what is there by now, and what went aside.
type joining struct {
	mine, theirs, now spot.Spots
	copies            []api.Copy
}

// join the sides. Files go aside only when it is settled what is at each path: none of them may take the place of that.
func (j *joining) join(base spot.Spots) api.Errno {
	aside := j.settle(base)
	for _, p := range aside.Paths() {
		if err := j.goAside(p, aside[p]); err != api.OK {
			return err
		}
	}
	if err := j.makeParents(); err != api.OK {
		return err
	}
	if len(j.now) > api.MaxEntries {
		return api.ErrMany
	}
	return api.OK
}

// settle what is at each path; the files that must go aside from there come out.
func (j *joining) settle(base spot.Spots) spot.Spots {
	aside := spot.Spots{}
	for _, p := range j.paths(base) {
		stays, goes := settled(base[p], j.mine[p], j.theirs[p])
		if stays.What != spot.Nothing {
			j.now[p] = stays
		}
		if goes.What != spot.Nothing {
			aside[p] = goes
		}
	}
	return aside
}

// paths that one of the three has, rising.
func (j *joining) paths(base spot.Spots) []string {
	all := maps.Clone(base)
	maps.Copy(all, j.mine)
	maps.Copy(all, j.theirs)
	return all.Paths()
}

// settled is what stays at a path, and what goes aside from there. That is a file or nothing, as two folders would be alike.
func settled(base, mine, theirs spot.Spot) (stays, goes spot.Spot) {
	switch {
	case mine.Like(theirs), mine.Like(base):
		return theirs, spot.Spot{}
	case theirs.Like(base):
		return mine, spot.Spot{}
	case mine.What == spot.Folder, theirs.What == spot.Nothing:
		return mine, theirs
	}
	return theirs, mine
}

// goAside lays a file at the first path that is free. A path that one side alone has is not, even if nothing is there by now: who looks there must not find another one's text.
func (j *joining) goAside(p string, file spot.Spot) api.Errno {
	for n := 1; n <= lastAside; n++ {
		to, err := path.Aside(p, n)
		if err != api.OK {
			return api.ErrMany
		}
		if j.isFree(to) {
			j.now[to] = file
			j.copies = append(j.copies, api.Copy{Path: p, At: to})
			return api.OK
		}
	}
	return api.ErrMany
}

func (j *joining) isFree(p string) bool {
	return j.mine[p].What == spot.Nothing && j.theirs[p].What == spot.Nothing && j.now[p].What == spot.Nothing
}

// makeParents of all that is there: one side may have deleted what the other one put something into.
func (j *joining) makeParents() api.Errno {
	for _, p := range j.now.Paths() {
		for i := range len(p) {
			if p[i] != '/' {
				continue
			}
			if err := j.makeFolder(p[:i]); err != api.OK {
				return err
			}
		}
	}
	return api.OK
}

func (j *joining) makeFolder(p string) api.Errno {
	if there := j.now[p]; there.What == spot.File {
		if err := j.goAside(p, there); err != api.OK {
			return err
		}
	}
	j.now[p] = spot.Spot{What: spot.Folder}
	return api.OK
}

func (j *joining) entries() []api.Entry {
	var out []api.Entry
	for _, p := range j.now.Paths() {
		s := j.now[p]
		out = append(out, api.Entry{Path: p, Folder: s.What == spot.Folder, Text: s.Text, Version: j.version(p)})
	}
	return out
}

// version of what is at a path now: who had it as it is says which; what neither side had there is new.
func (j *joining) version(p string) int {
	switch now := j.now[p]; {
	case now.Like(j.theirs[p]):
		return j.theirs[p].Version
	case now.Like(j.mine[p]):
		return j.mine[p].Version
	}
	return 1
}
