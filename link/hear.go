package link

import (
	"glowworm/api"
	"glowworm/frame"
	"glowworm/meet"
	"glowworm/setup"
)

// Hear takes what was heard, and tells what came of it.
func (l *Link) Hear(p api.Plain) []api.Tell {
	if l == nil {
		return nil
	}
	if _, may := frame.Of(p); !may {
		return nil
	}
	switch {
	case p.Kind == unnumbered && p.Addr == frame.All():
		return l.hearSetup(p)
	case l.state == linked && p.Addr == l.addr:
		return l.hearOwn(p)
	}
	return nil
}

// hearSetup is Hear of a U to everybody, of which a Setup to this one and the answer to its own count.
func (l *Link) hearSetup(p api.Plain) []api.Tell {
	s, ok := setup.Get(p.Body)
	if !ok || s.To != l.me {
		return nil
	}
	d, ok := meet.Deal(l.offer, s.Offer)
	switch {
	case !ok:
		return nil
	case p.Sort == api.USnrm && p.Cmd && s.From != l.me:
		return l.hearCall(s, d)
	case p.Sort == api.UUa && !p.Cmd && s.From == l.peer:
		return l.hearAnswer(s, d)
	}
	return nil
}

// hearCall is that somebody begins a link with this one.
func (l *Link) hearCall(s api.Setup, d api.Deal) []api.Tell {
	var ts []api.Tell
	switch {
	case l.state == idle:
		ts = l.begin(api.RSec, s, d, api.TLinked)
	case l.state != linked || s.From != l.peer:
		return nil
	case l.isPrimary() || s.Addr != l.addr:
		ts = l.begin(api.RSec, s, d, api.TReset)
	}
	// Who calls once more for the same link did not hear the answer.
	l.silence = 0
	l.owed = l.setup(api.UUa, false, s.Addr)
	l.pause = l.deal.Wait
	return ts
}

// hearAnswer is that the other one takes the link that this one begins.
func (l *Link) hearAnswer(s api.Setup, d api.Deal) []api.Tell {
	var ts []api.Tell
	switch {
	case l.state == calling && s.Addr == l.addr:
		ts = l.begin(api.RPrim, s, d, api.TLinked)
	case l.isPrimary() && l.resets && s.Addr == l.fresh:
		ts = l.begin(api.RPrim, s, d, api.TReset)
	default:
		return nil
	}
	l.pause = l.deal.Wait
	return ts
}

// hearOwn is Hear of what has the link's Addr.
func (l *Link) hearOwn(p api.Plain) []api.Tell {
	var ts []api.Tell
	if p.Cmd && l.changes {
		// The other one commands: it has changed already.
		ts = l.swap()
	}
	if p.Cmd == l.isPrimary() {
		return ts
	}
	l.silence = 0
	switch {
	case p.Kind != unnumbered:
		return append(ts, l.hearData(p)...)
	case p.Cmd:
		return append(ts, l.hearCommand(p.Sort)...)
	}
	return append(ts, l.hearResponse(p.Sort)...)
}

func (l *Link) hearData(p api.Plain) []api.Tell {
	was := l.turn.Mine()
	body, came := l.turn.Take(p)
	if l.turn.Mine() && !was {
		l.speakSoon()
	}
	if !came {
		return nil
	}
	return []api.Tell{{Kind: api.TData, Id: l.peer, Body: body}}
}

// hearCommand is Hear of a primary's U.
func (l *Link) hearCommand(sort int) []api.Tell {
	switch sort {
	case api.UDisc:
		l.owed = l.plain(api.UUa, false)
		l.pause = l.deal.Wait
		return l.end(api.TEnded)
	case api.UXchg:
		ts := l.swap()
		l.speakSoon()
		if l.resets {
			l.renew()
		}
		return ts
	}
	return nil
}

// hearResponse is Hear of a secondary's U.
func (l *Link) hearResponse(sort int) []api.Tell {
	switch {
	case sort == api.UUa && l.ends, sort == api.UDm:
		return l.end(api.TEnded)
	case sort == api.UReset:
		l.turn.Late()
		l.speakSoon()
		l.reset()
	}
	return nil
}

// speakSoon has it say something as soon as the other one can hear it.
func (l *Link) speakSoon() {
	l.patience = 0
	l.pause = l.deal.Wait
}
