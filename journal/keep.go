package journal

import (
	"slices"

	"tetherpost/api"
	"tetherpost/own"
	"tetherpost/tree"
	"tetherpost/word"
)

// keeper of a journal: with the tree that came of its commits, and their numbers by their keys. Its lists are those that were handed in: what is told of them is copied, and what is put behind them is put elsewhere.
type keeper struct {
	api.Journal
	tree    []api.Entry
	numbers map[string]int
}

// keep a journal that passes Check: who checks it comes to its tree and its keys on the way, so that no other call need do it again.
func keep(j api.Journal) (*keeper, api.Errno) {
	k := &keeper{Journal: j, tree: j.Base, numbers: map[string]int{}}
	if err := tree.Check(k.Base); err != api.OK {
		return nil, err
	}
	if k.First < 1 || k.First > api.MaxVersion {
		return nil, api.ErrRange
	}
	if len(k.Commits) > api.MaxCommits {
		return nil, api.ErrMany
	}
	for i, c := range k.Commits {
		if err := checkCommit(c, k.First+i); err != api.OK {
			return nil, err
		}
		if err := k.take(c); err != api.OK {
			return nil, err
		}
	}
	if len(k.numbers) < len(k.Commits) {
		return nil, api.ErrTwice
	}
	return k, api.OK
}

// checkCommit tells what is wrong with a commit whatever came ahead of it, but for its number.
func checkCommit(c api.Commit, number int) api.Errno {
	if c.Number != number {
		return api.ErrState
	}
	if number > api.MaxVersion {
		return api.ErrRange
	}
	if err := word.Key(c.Key); err != api.OK {
		return err
	}
	if len(c.Changes) == 0 {
		return api.ErrForm
	}
	return api.OK
}

// take what comes of a commit.
func (k *keeper) take(c api.Commit) api.Errno {
	t, _, err := tree.All(k.tree, c.Changes, c.Number)
	if err != api.OK {
		return err
	}
	k.tree = t
	k.numbers[c.Key] = c.Number
	return api.OK
}

// last commit's number, or what a cursor is that knows all there is, if there are none.
func (k *keeper) last() int { return k.First - 1 + len(k.Commits) }

// commit changes by a key that was not met.
func (k *keeper) commit(key string, l []api.Change) api.Errno {
	if len(l) == 0 {
		return api.ErrForm
	}
	c := api.Commit{Number: k.last() + 1, Key: key, Changes: l}
	if c.Number > api.MaxVersion {
		return api.ErrRange
	}
	if err := k.take(c); err != api.OK {
		return err
	}
	k.Commits = append(slices.Clip(k.Commits), c)
	if len(k.Commits) > api.MaxCommits {
		k.forget()
	}
	return api.OK
}

// forget the first commit: Base is what came of it. (It passed Check, so All has no error.)
func (k *keeper) forget() {
	k.Base, _, _ = tree.All(k.Base, k.Commits[0].Changes, k.First)
	k.First++
	k.Commits = k.Commits[1:]
}

// journal that is kept, in memory of its own.
func (k *keeper) journal() api.Journal { return own.Journal(k.Journal) }
