package world

import (
	"slices"

	"tetherpost/api"
	"tetherpost/client"
	"tetherpost/delta"
	"tetherpost/grant"
	"tetherpost/hub"
	"tetherpost/wire"
)

// events that there are, by their kinds. What an event with an error leaves behind is thrown away: so none of them need put anything back.
func (p *player) events() map[int]func(api.Event) api.Errno {
	return map[int]func(api.Event) api.Errno{
		api.EventEdit:  p.edit,
		api.EventFetch: p.fetch,
		api.EventSend:  p.send,
		api.EventServe: p.serve,
		api.EventHear:  p.hear,
		api.EventLose:  p.lose,
		api.EventTwice: p.repeat,
		api.EventTick:  p.tick,
		api.EventOther: p.other,
	}
}

// pick which one of a list an event means.
func pick[T any](l []T, which int) (*T, api.Errno) {
	if which < 0 || which >= len(l) {
		return nil, api.ErrNone
	}
	return &l[which], api.OK
}

func (p *player) edit(e api.Event) api.Errno {
	c, err := pick(p.Clients, e.Which)
	if err != api.OK {
		return err
	}
	*c, err = client.Edit(*c, e.Change)
	return err
}

func (p *player) fetch(e api.Event) api.Errno {
	c, err := pick(p.Clients, e.Which)
	if err != api.OK {
		return err
	}
	r, err := client.Fetch(*c)
	if err != api.OK {
		return err
	}
	return p.ask(e.Which, r)
}

func (p *player) send(e api.Event) api.Errno {
	c, err := pick(p.Clients, e.Which)
	if err != api.OK {
		return err
	}
	next, r, asks, err := client.Send(*c)
	if err != api.OK {
		return err
	}
	if !asks {
		return api.ErrNone
	}
	*c = next
	return p.ask(e.Which, r)
}

// ask by a letter.
func (p *player) ask(from int, r api.Request) api.Errno {
	s, err := wire.Ask(r)
	if err != api.OK {
		return err
	}
	return p.post(api.Letter{From: from, Kind: r.Kind, Text: s})
}

// post a letter: it is on its way, behind all others.
func (p *player) post(l api.Letter) api.Errno {
	if len(p.Letters) >= api.MaxLetters {
		return api.ErrMany
	}
	p.Letters = append(p.Letters, l)
	return api.OK
}

func (p *player) serve(e api.Event) api.Errno {
	l, err := pick(p.Letters, e.Which)
	if err != api.OK {
		return err
	}
	if l.Answer {
		return api.ErrState
	}
	l.Answer = true
	p.Hub, l.Text, err = hub.Text(p.Hub, l.Text)
	return err
}

// hear an answer. One that says nothing to its client is gone all the same, and is no error.
func (p *player) hear(e api.Event) api.Errno {
	l, err := pick(p.Letters, e.Which)
	if err != api.OK {
		return err
	}
	if !l.Answer {
		return api.ErrState
	}
	a, err := wire.Told(l.Text)
	if err != api.OK {
		return err
	}
	if c, _, err := client.Hear(p.Clients[l.From], l.Kind, a); err == api.OK {
		p.Clients[l.From] = c
	}
	return p.lose(e)
}

func (p *player) lose(e api.Event) api.Errno {
	if _, err := pick(p.Letters, e.Which); err != api.OK {
		return err
	}
	p.Letters = slices.Delete(p.Letters, e.Which, e.Which+1)
	return api.OK
}

// repeat a letter: it is there twice then.
func (p *player) repeat(e api.Event) api.Errno {
	l, err := pick(p.Letters, e.Which)
	if err != api.OK {
		return err
	}
	return p.post(*l)
}

func (p *player) tick(e api.Event) (err api.Errno) {
	p.Hub, err = hub.Tick(p.Hub, e.Which)
	return err
}

// other requests than those of clients: nobody hears the answer.
func (p *player) other(e api.Event) (err api.Errno) {
	p.Hub, _, err = hub.Serve(p.Hub, e.Request)
	return err
}

// isSettled: has a client nothing to ask for, and nothing to hear? All was checked: so the calls have no errors.
func (p *player) isSettled(c api.Client) bool {
	// In a folder that there is not nobody has a right.
	if right, _ := grant.Right(p.Hub.Grants, c.Folder, c.Who); right == api.RightNone {
		return true
	}
	t, _ := hub.Tree(p.Hub, c.Folder)
	knows, _ := delta.Same(c.Base, t)
	shows, _ := delta.Same(c.Mine, t)
	return knows && shows && len(c.Asked) == 0
}
