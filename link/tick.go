package link

import "glowworm/api"

// Tick lets a tick go by: what is said, if the air is free, and what is told.
func (l *Link) Tick(free bool) ([]api.Plain, []api.Tell) {
	if l == nil {
		return nil, nil
	}
	if ts := l.wait(); ts != nil {
		return nil, ts
	}
	if l.pause > 0 {
		l.pause--
		return nil, nil
	}
	if !free {
		return nil, nil
	}
	return l.say()
}

// wait is a tick in which the other one was not heard; what is told is that it all ended.
func (l *Link) wait() []api.Tell {
	if l.state == linked {
		l.silence++
		if l.silence >= l.deal.Silent {
			return l.end(api.TEnded)
		}
	}
	if l.patience == 0 {
		return nil
	}
	l.patience--
	if l.patience > 0 {
		return nil
	}
	return l.miss()
}

// miss is that the answer did not come; what is told is that it all ended.
func (l *Link) miss() []api.Tell {
	last := l.tries >= api.Tries
	switch {
	case last && l.state == calling:
		return l.end(api.TFailed)
	case last && (l.ends || l.resets):
		return l.end(api.TEnded)
	}
	l.turn.Late()
	return nil
}

// say is what is said now, and what is told with it.
func (l *Link) say() ([]api.Plain, []api.Tell) {
	switch {
	case l.owed != (api.Plain{}):
		p := l.owed
		l.owed = api.Plain{}
		return []api.Plain{p}, nil
	case l.patience > 0:
		return nil, nil
	case l.state == calling:
		return l.try(l.setup(api.USnrm, true, l.addr)), nil
	case !l.turn.Mine():
		return nil, nil
	case l.isPrimary():
		return l.command(), nil
	}
	return l.respond()
}

// try says p, and awaits its answer, but not for ever.
func (l *Link) try(p api.Plain) []api.Plain {
	l.tries++
	l.patience = api.Poll
	return []api.Plain{p}
}

// command is what a primary says that has the turn.
func (l *Link) command() []api.Plain {
	switch {
	case l.ends:
		return l.try(l.plain(api.UDisc, true))
	case l.resets:
		return l.try(l.setup(api.USnrm, true, l.fresh))
	}
	l.patience = api.Poll
	if l.changes {
		return []api.Plain{l.plain(api.UXchg, true)}
	}
	return l.burst()
}

// respond is what a secondary says that has the turn, and what is told with it.
func (l *Link) respond() ([]api.Plain, []api.Tell) {
	switch {
	case l.ends:
		p := l.plain(api.UDm, false)
		return []api.Plain{p}, l.end(api.TEnded)
	case l.resets:
		// The turn is given back without data: these would be lost in the link that follows.
		l.turn.Go()
		return []api.Plain{l.plain(api.UReset, false)}, nil
	}
	return l.burst(), nil
}

func (l *Link) burst() []api.Plain {
	ps := l.turn.Go()
	for i := range ps {
		ps[i].Addr = l.addr
	}
	return ps
}
