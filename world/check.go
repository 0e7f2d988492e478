package world

import (
	"slices"

	"tetherpost/api"
	"tetherpost/client"
	"tetherpost/hub"
	"tetherpost/own"
	"tetherpost/wire"
)

// player of a world that is its own, for one event.
type player struct{ api.World }

// playing a world that passes Check.
func playing(w api.World) (*player, api.Errno) {
	p := &player{World: w}
	if err := hub.Check(p.Hub); err != api.OK {
		return nil, err
	}
	if len(p.Clients) > api.MaxClients || len(p.Letters) > api.MaxLetters {
		return nil, api.ErrMany
	}
	if err := checkClients(p.Clients); err != api.OK {
		return nil, err
	}
	for _, l := range p.Letters {
		if err := p.checkLetter(l); err != api.OK {
			return nil, err
		}
	}
	p.World = own.World(w)
	return p, api.OK
}

func checkClients(l []api.Client) api.Errno {
	for _, c := range l {
		if err := client.Check(c); err != api.OK {
			return err
		}
	}
	for i, c := range l {
		if slices.ContainsFunc(l[:i], func(o api.Client) bool { return o.Who == c.Who }) {
			return api.ErrTwice
		}
	}
	return api.OK
}

func (p *player) checkLetter(l api.Letter) api.Errno {
	switch {
	case l.From < 0 || l.From >= len(p.Clients):
		return api.ErrRange
	case l.Kind != api.AskPage && l.Kind != api.AskCommit:
		return api.ErrKind
	}
	return checkText(l)
}

func checkText(l api.Letter) api.Errno {
	var err api.Errno
	if l.Answer {
		_, err = wire.Told(l.Text)
	} else {
		_, err = wire.Asked(l.Text)
	}
	return err
}
