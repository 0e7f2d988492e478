package upload_test

import (
	"fmt"
	"slices"
	"strings"
	"testing"

	"tetherpost/api"
	"tetherpost/brief"
	"tetherpost/upload"
)

const far = api.MaxTime

func session(s string) api.Session { return brief.Sessions(s)[0] }

// of some sessions, with Next, and a room of 20 for each.
func of(next int, l ...string) api.Uploads {
	return api.Uploads{Sessions: brief.Sessions(l...), Next: next, Lasts: 10, Room: 20}
}

// sample: a has no room left, b has all of its room, c has none of it; d could finish.
func sample() api.Uploads {
	return of(9, "2 a abc 5 10", "3 b  20 11", "5 a  15 12", "7 c  0 13", "8 d xyz 3 14")
}

// full has all the sessions that there may be, each of somebody else; the first is over first.
func full() api.Uploads {
	u := of(21)
	for i := range api.MaxSessions {
		u.Sessions = append(u.Sessions, session(fmt.Sprintf("%d w%d  1 %d", i+1, i, 50+i)))
	}
	return u
}

// with a fault in it.
func with(u api.Uploads, fault func(*api.Uploads)) api.Uploads {
	fault(&u)
	return u
}

// shown is the same of lists that are nil, and of those that are empty.
func shown(a ...any) string { return strings.ReplaceAll(fmt.Sprintf("%#v", a), "(nil)", "{}") }

func want(t *testing.T, name string, got, want string) {
	t.Helper()
	if got != want {
		t.Errorf("%s: %s, must be %s", name, got, want)
	}
}

const long = brief.Long

var noNames = brief.NoNames()

type fault struct {
	name string
	u    api.Uploads
	err  api.Errno
}

// faults: where several errors apply, the one that is named first is wanted.
func faults() []fault {
	first := func(change func(*api.Session)) api.Uploads {
		return with(sample(), func(u *api.Uploads) { change(&u.Sessions[0]) })
	}
	bounds := func(next, lasts, room int) api.Uploads { return api.Uploads{Next: next, Lasts: lasts, Room: room} }
	out := []fault{
		{"nothing", api.Uploads{}, api.ErrRange},
		{"lasts 0", bounds(1, 0, 1), api.ErrRange},
		{"lasts below 0", bounds(1, -1, 1), api.ErrRange},
		{"lasts too long", bounds(1, 1000001, 1), api.ErrRange},
		{"room below 0", bounds(1, 1, -1), api.ErrRange},
		{"too much room", bounds(1, 1, 100001), api.ErrRange},
		{"next 0", bounds(0, 1, 1), api.ErrRange},
		{"next below 0", bounds(-1<<63, 1, 1), api.ErrRange},
		{"next too great", bounds(far+1, 1, 1), api.ErrRange},
		{"bounds, sessions", with(full(), func(u *api.Uploads) { u.Lasts, u.Sessions = 0, make([]api.Session, 21) }), api.ErrRange},
		{"sessions", with(full(), func(u *api.Uploads) {
			u.Next, u.Sessions = 22, append(u.Sessions, session("21 w20  1 5"))
		}), api.ErrMany},
		{"sessions, numbers", with(sample(), func(u *api.Uploads) { u.Sessions = make([]api.Session, 21) }), api.ErrMany},
		{"number 0", of(9, "0 a  5 10"), api.ErrRange},
		{"number below 0", of(9, "-1 a  5 10"), api.ErrRange},
		{"number next", of(9, "9 a  5 10"), api.ErrRange},
		{"number above next", of(9, "10 a  5 10"), api.ErrRange},
		{"size below 0", first(func(s *api.Session) { s.Size, s.Text = -1, "" }), api.ErrRange},
		{"size, text", first(func(s *api.Session) { s.Size = -1 }), api.ErrRange},
		{"size too great", with(of(9, "1 a  301 10"), func(u *api.Uploads) { u.Room = 1000 }), api.ErrRange},
		{"size too great, full", of(9, "1 a  301 10"), api.ErrRange},
		{"till below 0", first(func(s *api.Session) { s.Till = -1 }), api.ErrRange},
		{"till too late", first(func(s *api.Session) { s.Till = 2*far + 1 }), api.ErrRange},
		{"number, who", of(9, "0 ?  5 10"), api.ErrRange},
		{"who, text", first(func(s *api.Session) { s.Who, s.Size = "?", 2 }), api.ErrForm},
		{"who, text of the one ahead of it", of(9, "1 a abc 2 10", "2 ?  5 10"), api.ErrMany},
		{"who, number of the one behind it", of(9, "1 ?  5 10", "0 a  5 10"), api.ErrForm},
		{"text", first(func(s *api.Session) { s.Size = 2 }), api.ErrMany},
		{"text of nothing", of(9, "1 a x 0 10"), api.ErrMany},
		{"text, order", of(9, "2 a  5 10", "1 a abc 2 10"), api.ErrMany},
		{"who, order", of(9, "2 a  5 10", "1 ?  5 10"), api.ErrForm},
		{"order", of(9, "2 a  5 10", "1 a  5 10"), api.ErrState},
		{"order at the end", of(9, "2 a  5 10", "4 a  5 10", "3 b  5 10"), api.ErrState},
		{"number twice", of(9, "2 a  5 10", "2 b  5 10"), api.ErrState},
		{"order, full", of(9, "2 a  15 10", "1 a  15 10"), api.ErrState},
		{"full by one", of(9, "1 a  21 10"), api.ErrFull},
		{"full by two", of(9, "1 a  5 10", "2 a  16 10"), api.ErrFull},
		{"full, with others between", of(9, "1 a  10 10", "2 b  1 10", "3 a  10 10", "4 b  1 10", "5 a  1 10"), api.ErrFull},
		{"full, of the last one", of(9, "1 a  20 10", "2 b  20 10", "3 c  21 10"), api.ErrFull},
		{"full, without room", with(of(9, "1 a  1 10"), func(u *api.Uploads) { u.Room = 0 }), api.ErrFull},
		{"full, at any time", of(9, "1 a  15 0", "2 a  15 10"), api.ErrFull},
	}
	for _, s := range noNames {
		u := of(9, "1 a  5 10", "2 a  5 10")
		u.Sessions[1].Who = s
		out = append(out, fault{"who " + s, u, api.ErrForm})
	}
	return out
}

func TestG1Check(t *testing.T) {
	for _, u := range []api.Uploads{
		{Next: 1, Lasts: 1}, {Next: far, Lasts: 1000000, Room: 100000}, {Next: 1, Lasts: 1, Sessions: []api.Session{}},
		sample(), full(), of(2, "1 a  20 0"), of(9, "8 a  0 10"), of(9, "1 a abcde 5 10"),
		of(9, "1 a  20 10", "2 b  20 10", "3 c  20 10"), of(9, "1 a  10 10", "2 b  20 10", "3 a  10 10"), of(9, "1 "+long+"  5 10"),
		{Next: far, Lasts: 1, Room: 300, Sessions: []api.Session{{Number: far - 1, Who: "a", Size: 300, Till: 2 * far}}},
		{Next: 9, Lasts: 1, Sessions: []api.Session{{Number: 1, Who: "a"}, {Number: 2, Who: "a"}}},
	} {
		if err := upload.Check(u); err != api.OK {
			t.Errorf("%+v: %d", u, err)
		}
	}
	for _, x := range faults() {
		if err := upload.Check(x.u); err != x.err {
			t.Errorf("%s: %d, must be %d", x.name, err, x.err)
		}
	}
}

// wantAll: each call but Check answers this error, and nothing else.
func wantAll(t *testing.T, name string, u api.Uploads, who string, number, now int, err api.Errno) {
	t.Helper()
	v, n, got := upload.Open(u, who, number, now)
	want(t, name+": Open", shown(v, n, got), shown(api.Uploads{}, 0, err))
	wantFind(t, name, u, who, number, now, err)
}

// wantFind: each call that is about one session does.
func wantFind(t *testing.T, name string, u api.Uploads, who string, number, now int, err api.Errno) {
	t.Helper()
	for _, text := range []string{"", "abc", "de", strings.Repeat("t", 1000)} {
		for _, offset := range []int{-1, 0, 3, 7} {
			v, n, got := upload.Append(u, who, number, offset, text, now)
			want(t, name+": Append", shown(v, n, got), shown(api.Uploads{}, 0, err))
		}
	}
	n, got := upload.Query(u, who, number, now)
	want(t, name+": Query", shown(n, got), shown(0, err))
	v, s, got := upload.Finish(u, who, number, now)
	want(t, name+": Finish", shown(v, s, got), shown(api.Uploads{}, "", err))
}

// G1: what Check says comes first, then the time, then who asks, then all else.
func TestG1First(t *testing.T) {
	for _, x := range faults() {
		for _, now := range []int{0, 5, 11, -1} {
			wantAll(t, x.name, x.u, "a", 2, now, x.err)
			wantAll(t, x.name, x.u, "", -1, now, x.err)
			v, err := upload.Sweep(x.u, now)
			want(t, x.name+": Sweep", shown(v, err), shown(api.Uploads{}, x.err))
		}
	}
	for _, now := range []int{-1, -1 << 63, far + 1, 1<<63 - 1} {
		wantAll(t, "now", sample(), "a", 2, now, api.ErrRange)
		wantAll(t, "now", sample(), "", -1, now, api.ErrRange)
		v, err := upload.Sweep(sample(), now)
		want(t, "now: Sweep", shown(v, err), shown(api.Uploads{}, api.ErrRange))
	}
	for _, s := range noNames {
		wantAll(t, "who "+s, sample(), s, 2, 5, api.ErrForm)
		wantAll(t, "who "+s, sample(), s, -1, far, api.ErrForm)
		wantAll(t, "who "+s, full(), s, 301, 5, api.ErrForm)
	}
}

// left of the sample at a time: those that are over are not there.
func left(now int) api.Uploads {
	u := sample()
	u.Sessions = u.Sessions[min(max(now-10, 0), 5):]
	return u
}

// G1: at its last time a session is there; behind it, no call knows of it.
func TestG1Over(t *testing.T) {
	for _, now := range []int{0, 1, 9, 10, 11, 12, 13, 14, 15, 16, 1000, far} {
		name := fmt.Sprint("at ", now)
		v, err := upload.Sweep(sample(), now)
		want(t, name+": Sweep", shown(v, err), shown(left(now), api.OK))
		v, n, err := upload.Open(sample(), "e", 4, now)
		opened := left(now)
		opened.Next, opened.Sessions = 10, append(opened.Sessions, api.Session{Number: 9, Who: "e", Size: 4, Till: now + 10})
		want(t, name+": Open", shown(v, n, err), shown(opened, 9, api.OK))
		for i, s := range sample().Sessions {
			if now > 10+i {
				wantFind(t, name, sample(), s.Who, s.Number, now, api.ErrNone)
				continue
			}
			n, err := upload.Query(sample(), s.Who, s.Number, now)
			want(t, name+": Query", shown(n, err), shown(len(s.Text), api.OK))
			v, n, err := upload.Append(sample(), s.Who, s.Number, 0, s.Text, now)
			want(t, name+": Append", shown(v, n, err), shown(left(now), len(s.Text), api.OK))
		}
	}
}

func wantOpen(t *testing.T, u api.Uploads, who string, size, now int, wantU api.Uploads, number int, wantErr api.Errno) {
	t.Helper()
	v, n, err := upload.Open(u, who, size, now)
	want(t, fmt.Sprintf("%v: %s opens %d at %d", u, who, size, now), shown(v, n, err), shown(wantU, number, wantErr))
}

func TestG2Open(t *testing.T) {
	wantOpen(t, of(1), "a", 20, 0, of(2, "1 a  20 10"), 1, api.OK)
	wantOpen(t, of(1), "a", 0, 3, of(2, "1 a  0 13"), 1, api.OK)
	wantOpen(t, of(7, "2 a abc 5 10"), "a", 15, 5, of(8, "2 a abc 5 10", "7 a  15 15"), 7, api.OK)
	wantOpen(t, of(7, "2 a abc 5 10"), "b", 20, 5, of(8, "2 a abc 5 10", "7 b  20 15"), 7, api.OK)
	wantOpen(t, of(7, "2 a  20 10"), "a", 0, 5, of(8, "2 a  20 10", "7 a  0 15"), 7, api.OK)
	wide := api.Uploads{Next: 1, Lasts: 1000000, Room: 300}
	opened := api.Uploads{Next: 2, Lasts: 1000000, Room: 300, Sessions: []api.Session{{Number: 1, Who: long, Size: 300, Till: far + 1000000}}}
	wantOpen(t, wide, long, 300, far, opened, 1, api.OK)
	last := of(far-1, "2 a  5 10")
	wantOpen(t, last, "b", 1, 0, with(of(far, "2 a  5 10"), func(u *api.Uploads) {
		u.Sessions = append(u.Sessions, api.Session{Number: far - 1, Who: "b", Size: 1, Till: 10})
	}), far-1, api.OK)
}

func TestG2Errors(t *testing.T) {
	for _, x := range []struct {
		u    api.Uploads
		who  string
		size int
		err  api.Errno
	}{
		{of(1), "a", -1, api.ErrRange}, {of(1), "a", -1 << 63, api.ErrRange}, {of(1), "a", 301, api.ErrRange}, {of(1), "a", 1<<63 - 1, api.ErrRange},
		{of(far), "a", 1, api.ErrRange}, {of(far, "1 a  20 10"), "a", 1, api.ErrRange},
		{with(full(), func(u *api.Uploads) { u.Next = far }), "a", 1, api.ErrRange}, {full(), "a", 301, api.ErrRange}, {full(), "a", -1, api.ErrRange},
		{full(), "a", 1, api.ErrMany}, {full(), "a", 0, api.ErrMany}, {full(), "w3", 20, api.ErrMany}, {full(), "a", 21, api.ErrMany},
		{of(1), "a", 21, api.ErrFull}, {of(1), "a", 300, api.ErrFull}, {of(9, "1 a  20 10"), "a", 1, api.ErrFull},
		{sample(), "a", 1, api.ErrFull}, {sample(), "b", 1, api.ErrFull}, {sample(), "d", 18, api.ErrFull},
		{api.Uploads{Next: 1, Lasts: 1}, "a", 1, api.ErrFull},
	} {
		wantOpen(t, x.u, x.who, x.size, 5, api.Uploads{}, 0, x.err)
	}
}

// G2: those that are over count neither for how many there are, nor for the room.
func TestG2OverMakesRoom(t *testing.T) {
	wantOpen(t, full(), "a", 1, 50, api.Uploads{}, 0, api.ErrMany)
	v, n, err := upload.Open(full(), "a", 1, 51)
	if len(v.Sessions) != api.MaxSessions || v.Next != 22 || n != 21 || err != api.OK {
		t.Errorf("%v %d %d", v, n, err)
	}
	two := of(9, "2 a abc 5 10", "5 a  15 12")
	wantOpen(t, two, "a", 5, 10, api.Uploads{}, 0, api.ErrFull)
	wantOpen(t, two, "a", 6, 11, api.Uploads{}, 0, api.ErrFull)
	wantOpen(t, two, "a", 5, 11, of(10, "5 a  15 12", "9 a  5 21"), 9, api.OK)
	wantOpen(t, two, "a", 20, 13, of(10, "9 a  20 23"), 9, api.OK)
}

func wantAppend(t *testing.T, who string, number, offset int, text string, wantU api.Uploads, bytes int, wantErr api.Errno) {
	t.Helper()
	v, n, err := upload.Append(sample(), who, number, offset, text, 7)
	want(t, fmt.Sprintf("%q at %d of %d, by %s", text, offset, number, who), shown(v, n, err), shown(wantU, bytes, wantErr))
}

// came of the sample: one session is another one then.
func came(i int, s string) api.Uploads {
	u := sample()
	u.Sessions[i] = session(s)
	return u
}

func TestG3Append(t *testing.T) {
	wantAppend(t, "a", 2, 3, "d", came(0, "2 a abcd 5 17"), 4, api.OK)
	wantAppend(t, "a", 2, 3, "de", came(0, "2 a abcde 5 17"), 5, api.OK)
	wantAppend(t, "a", 2, 3, "c", came(0, "2 a abcc 5 17"), 4, api.OK)
	wantAppend(t, "a", 5, 0, strings.Repeat("t", 15), came(2, "5 a "+strings.Repeat("t", 15)+" 15 17"), 15, api.OK)
	wantAppend(t, "b", 3, 0, "\x00\xff", came(1, "3 b \x00\xff 20 17"), 2, api.OK)
}

// G3: what is there already, just from offset on up to the end, changes nothing, nor how long the session lasts.
func TestG3ThereAlready(t *testing.T) {
	for offset, text := range []string{"abc", "bc", "c", ""} {
		wantAppend(t, "a", 2, offset, text, sample(), 3, api.OK)
	}
	for offset, text := range []string{"xyz", "yz", "z", ""} {
		wantAppend(t, "d", 8, offset, text, sample(), 3, api.OK)
	}
	wantAppend(t, "c", 7, 0, "", sample(), 0, api.OK)
	wantAppend(t, "b", 3, 0, "", sample(), 0, api.OK)
}

// G3: a session lasts from its last piece on, even if it would have lasted longer.
func TestG3Till(t *testing.T) {
	late := of(9, "2 a abc 5 900")
	v, n, err := upload.Append(late, "a", 2, 3, "d", 7)
	want(t, "a session that lasts long", shown(v, n, err), shown(of(9, "2 a abcd 5 17"), 4, api.OK))
	v, n, err = upload.Append(late, "a", 2, 0, "abc", 7)
	want(t, "what is there already", shown(v, n, err), shown(late, 3, api.OK))
	last := with(of(9, "2 a  5 10"), func(u *api.Uploads) { u.Lasts, u.Sessions[0].Till = 1000000, 2*far })
	v, n, err = upload.Append(last, "a", 2, 0, "a", far)
	if len(v.Sessions) != 1 || v.Sessions[0].Till != far+1000000 || n != 1 || err != api.OK {
		t.Errorf("at the last time: %v %d %d", v, n, err)
	}
}

func TestG3Errors(t *testing.T) {
	for _, x := range []struct {
		who            string
		number, offset int
		text           string
		err            api.Errno
	}{
		{"a", 1, 0, "", api.ErrNone}, {"a", 9, 0, "", api.ErrNone}, {"a", 0, 0, "", api.ErrNone}, {"a", -1, 0, "", api.ErrNone}, {"z", 1, 0, "", api.ErrNone},
		{"a", 3, 0, "x", api.ErrNone}, {"b", 2, 3, "d", api.ErrNone}, {"b", 2, 0, "abc", api.ErrNone}, {"A", 2, 3, "d", api.ErrNone}, {"b", 2, 9, "defg", api.ErrNone},
		{"a", 2, 0, "", api.ErrState}, {"a", 2, 2, "", api.ErrState}, {"a", 2, 0, "ab", api.ErrState}, {"a", 2, 0, "abcd", api.ErrState}, {"a", 2, 1, "b", api.ErrState},
		{"a", 2, 1, "bd", api.ErrState}, {"a", 2, 0, "abd", api.ErrState}, {"a", 2, 2, "x", api.ErrState}, {"a", 2, 2, "cd", api.ErrState},
		{"a", 2, 4, "", api.ErrState}, {"a", 2, 4, "e", api.ErrState}, {"a", 2, -1, "", api.ErrState}, {"a", 2, -1, "d", api.ErrState},
		{"a", 2, 1<<63 - 1, "", api.ErrState}, {"a", 2, -1 << 63, "abc", api.ErrState}, {"a", 2, 4, "defghi", api.ErrState}, {"a", 2, 2, "cdefghi", api.ErrState},
		{"a", 2, 3, "def", api.ErrMany}, {"d", 8, 3, "a", api.ErrMany}, {"c", 7, 0, "a", api.ErrMany}, {"a", 2, 3, strings.Repeat("t", 1<<16), api.ErrMany},
	} {
		wantAppend(t, x.who, x.number, x.offset, x.text, api.Uploads{}, 0, x.err)
	}
}

func TestG4Query(t *testing.T) {
	for _, x := range []struct {
		who           string
		number, bytes int
		err           api.Errno
	}{
		{"a", 2, 3, api.OK}, {"b", 3, 0, api.OK}, {"a", 5, 0, api.OK}, {"c", 7, 0, api.OK}, {"d", 8, 3, api.OK},
		{"b", 2, 0, api.ErrNone}, {"a", 3, 0, api.ErrNone}, {"a", 1, 0, api.ErrNone}, {"a", 9, 0, api.ErrNone}, {"a", -2, 0, api.ErrNone}, {"z", 2, 0, api.ErrNone},
	} {
		n, err := upload.Query(sample(), x.who, x.number, 7)
		want(t, fmt.Sprint(x), shown(n, err), shown(x.bytes, x.err))
	}
}

func TestG4Finish(t *testing.T) {
	without := func(i int) api.Uploads {
		u := sample()
		u.Sessions = slices.Delete(u.Sessions, i, i+1)
		return u
	}
	for _, x := range []struct {
		who    string
		number int
		u      api.Uploads
		text   string
		err    api.Errno
	}{
		{"d", 8, without(4), "xyz", api.OK}, {"c", 7, without(3), "", api.OK},
		{"a", 2, api.Uploads{}, "", api.ErrState}, {"a", 5, api.Uploads{}, "", api.ErrState}, {"b", 3, api.Uploads{}, "", api.ErrState},
		{"a", 8, api.Uploads{}, "", api.ErrNone}, {"d", 7, api.Uploads{}, "", api.ErrNone}, {"d", 2, api.Uploads{}, "", api.ErrNone},
		{"d", 9, api.Uploads{}, "", api.ErrNone}, {"d", 0, api.Uploads{}, "", api.ErrNone}, {"z", 8, api.Uploads{}, "", api.ErrNone},
	} {
		u, s, err := upload.Finish(sample(), x.who, x.number, 7)
		want(t, fmt.Sprint(x.number, " by ", x.who), shown(u, s, err), shown(x.u, x.text, x.err))
	}
	u, _, _ := upload.Finish(sample(), "d", 8, 7)
	wantFind(t, "finished", u, "d", 8, 7, api.ErrNone)
	u, s, err := upload.Finish(sample(), "d", 8, 13)
	want(t, "others that are over", shown(u, s, err), shown(of(9, "7 c  0 13"), "xyz", api.OK))
}

func TestG4Sweep(t *testing.T) {
	for _, x := range []struct {
		now  int
		u, v api.Uploads
	}{
		{0, of(1), of(1)}, {far, of(1), of(1)}, {0, full(), full()}, {49, full(), full()}, {50, full(), full()}, {70, full(), of(21)},
		{1, of(9, "1 a  5 0", "2 a  5 1", "3 a  5 0", "4 a  5 2"), of(9, "2 a  5 1", "4 a  5 2")},
		{far, of(9, "1 a  5 0"), of(9)},
	} {
		v, err := upload.Sweep(x.u, x.now)
		want(t, fmt.Sprint("at ", x.now), shown(v, err), shown(x.v, api.OK))
	}
}

// The document's example: two bytes that were appended are what is finished.
func TestG4Example(t *testing.T) {
	u, n, err := upload.Open(of(1), "a", 2, 0)
	want(t, "opened", shown(n, err), shown(1, api.OK))
	u, n, err = upload.Append(u, "a", 1, 0, "hi", 1)
	want(t, "appended", shown(n, err), shown(2, api.OK))
	u, s, err := upload.Finish(u, "a", 1, 2)
	want(t, "finished", shown(u, s, err), shown(of(2), "hi", api.OK))
}

// G5: pieces of two texts, each once or more often, in order: they are the texts.
func TestG5Pieces(t *testing.T) {
	seed := uint64(1)
	draw := func(n int) int {
		seed = seed*6364136223846793005 + 1442695040888963407
		return int(seed >> 33 % uint64(n))
	}
	for range 200 {
		texts := make([]string, 2)
		u := api.Uploads{Next: 1, Lasts: 10, Room: 300}
		for i := range texts {
			texts[i] = strings.Repeat("ab", draw(80))
			u, _, _ = upload.Open(u, []string{"a", "b"}[i], len(texts[i]), 0)
		}
		now, came := 0, []int{0, 0}
		for came[0] < len(texts[0]) || came[1] < len(texts[1]) {
			i := draw(2)
			who, from := []string{"a", "b"}[i], came[i]
			piece := texts[i][from : from+draw(min(20, len(texts[i])-from)+1)]
			for range 1 + draw(3) {
				v, n, err := upload.Append(u, who, i+1, from, piece, now)
				if err != api.OK || n != from+len(piece) {
					t.Fatalf("%q: %q at %d: %d %d", texts[i], piece, from, n, err)
				}
				u, came[i] = v, n
			}
			now = min(now+1, 9)
		}
		for i, who := range []string{"a", "b"} {
			v, s, err := upload.Finish(u, who, i+1, now)
			if s != texts[i] || err != api.OK {
				t.Fatalf("%q: %q %d", texts[i], s, err)
			}
			u = v
		}
		want(t, "all are finished", shown(u), shown(api.Uploads{Next: 3, Lasts: 10, Room: 300}))
	}
}

// G5: who lets time go has no room taken.
func TestG5TimeGoes(t *testing.T) {
	u := of(1)
	for i := range 100 {
		v, n, err := upload.Open(u, "a", 20, 11*i)
		if n != i+1 || err != api.OK || len(v.Sessions) != 1 {
			t.Fatalf("%d: %v %d %d", i, v, n, err)
		}
		u = v
		wantOpen(t, u, "a", 1, 11*i+10, api.Uploads{}, 0, api.ErrFull)
	}
}

// P2: what is handed in is only read, and what comes out is the caller's. P3: the same comes again.
func TestP2P3Memory(t *testing.T) {
	room := func() api.Uploads {
		u := sample()
		u.Sessions = append(u.Sessions, full().Sessions...)[:len(u.Sessions)]
		return u
	}
	u := room()
	one := func(v api.Uploads, _ int, _ api.Errno) api.Uploads { return v }
	for i, call := range []func() api.Uploads{
		func() api.Uploads { return one(upload.Open(u, "e", 5, 7)) },
		func() api.Uploads { return one(upload.Open(u, "e", 5, 12)) },
		func() api.Uploads { return one(upload.Append(u, "a", 2, 3, "de", 7)) },
		func() api.Uploads { return one(upload.Append(u, "a", 2, 0, "abc", 7)) },
		func() api.Uploads { return one(upload.Append(u, "a", 5, 0, "abc", 12)) },
		func() api.Uploads { v, _, _ := upload.Finish(u, "c", 7, 7); return v },
		func() api.Uploads { v, _ := upload.Sweep(u, 7); return v },
		func() api.Uploads { v, _ := upload.Sweep(u, 12); return v },
	} {
		first := call()
		was := shown(first)
		clear(first.Sessions[:cap(first.Sessions)])
		if again := shown(call()); len(first.Sessions) == 0 || again != was {
			t.Errorf("%d: %s, and it was %s", i, again, was)
		}
		if !slices.Equal(u.Sessions[:25], room().Sessions[:25]) {
			t.Errorf("%d: %v: it was changed, or the room behind it", i, u.Sessions[:25])
		}
	}
}
