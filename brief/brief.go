// Package brief: what the tests of several layers hand in, written briefly. The program itself does without it.
package brief

import (
	"strconv"
	"strings"

	"tetherpost/api"
)

// Long is the longest name there is.
const Long = "nnnnnnnnnnnnnnnnnnnn"

// NoNames: what is no name of somebody, nor of a folder.
func NoNames() []string {
	return []string{"", ".", "..", " a", "a ", "/", "a/b", "a:b", "\x00", "\xe4", Long + "n"}
}

// Entries: "a" is a folder, "a=x" a file with the text x, each at this version.
func Entries(version int, l ...string) []api.Entry {
	var t []api.Entry
	for _, s := range l {
		p, text, file := strings.Cut(s, "=")
		t = append(t, api.Entry{Path: p, Folder: !file, Text: text, Version: version})
	}
	return t
}

// Changes, with blanks between them: "+a" is a folder that is made, "a=x" a file that is written, "a>b" a move, "-a" a delete; Base is Any.
func Changes(s string) []api.Change {
	var out []api.Change
	for _, f := range strings.Fields(s) {
		out = append(out, change(f))
	}
	return out
}

func change(s string) api.Change {
	if from, to, is := strings.Cut(s, ">"); is {
		return api.Change{Kind: api.ChangeMove, Path: from, To: to, Base: api.Any}
	}
	if p, is := strings.CutPrefix(s, "+"); is {
		return api.Change{Kind: api.ChangeFolder, Path: p, Base: api.Any}
	}
	if p, is := strings.CutPrefix(s, "-"); is {
		return api.Change{Kind: api.ChangeDelete, Path: p, Base: api.Any}
	}
	p, text, _ := strings.Cut(s, "=")
	return api.Change{Kind: api.ChangeWrite, Path: p, Text: text, Base: api.Any}
}

// Based: changes with another base.
func Based(l []api.Change, base int) []api.Change {
	for i := range l {
		l[i].Base = base
	}
	return l
}

// Commits from a number on: each is a key, a blank, and its changes.
func Commits(first int, l ...string) []api.Commit {
	var out []api.Commit
	for i, s := range l {
		key, rest, _ := strings.Cut(s, " ")
		out = append(out, api.Commit{Number: first + i, Key: key, Changes: Changes(rest)})
	}
	return out
}

// Journal with the tree ahead of its first commit, and commits from that one on.
func Journal(first int, base []api.Entry, l ...string) api.Journal {
	return api.Journal{Base: base, First: first, Commits: Commits(first, l...)}
}

// Grants, with blanks between them: "f:a3" is one of the right 3 in f to a.
func Grants(s string) []api.Grant {
	var out []api.Grant
	for _, x := range strings.Fields(s) {
		folder, rest, _ := strings.Cut(x, ":")
		i := max(len(rest)-1, 0)
		out = append(out, api.Grant{Folder: folder, Who: rest[:i], Right: number(rest[i:])})
	}
	return out
}

// Sessions: each its number, whose it is, what came, its size, and till when it lasts, with one blank between them: "1 a  5 10" is one of which nothing came.
func Sessions(l ...string) []api.Session {
	var out []api.Session
	for _, s := range l {
		f := append(strings.Split(s, " "), "", "", "", "", "")
		out = append(out, api.Session{Number: number(f[0]), Who: f[1], Text: f[2], Size: number(f[3]), Till: number(f[4])})
	}
	return out
}

// number that a text is; of another text one that may stand nowhere.
func number(s string) int {
	n, err := strconv.Atoi(s)
	if err != nil {
		return -1 << 63
	}
	return n
}
