package mv

// What a small step of the sweeper answers.
const (
	passGoesOn = iota
	passOver
)

// sweeper takes away what nobody can read any more, in passes over the store.
// All but its worker is touched by its own goroutine only.
type sweeper struct {
	worker
	store  *Store
	lowest int        // no transaction reads below it, as far as the pass has looked
	next   func() int // what it does at its next turn
}

func (s *Store) newSweeper() *sweeper {
	w := &sweeper{store: s}
	w.next = w.start
	w.worker = s.hire(func() int { return w.next() })
	return w
}

// start looks at the clock ahead of the sites: whoever begins behind this
// small step begins at that clock or above it, so that a site may be passed by
// which is taken and holds no number yet.
func (w *sweeper) start() int {
	w.lowest = w.store.clock
	w.next = func() int { return w.heed(0) }
	return passGoesOn
}

// heed keeps what the transaction at the site may still read.
func (w *sweeper) heed(site int) int {
	if n := w.store.sites[site]; n != free && n != taken {
		w.lowest = min(w.lowest, n)
	}
	if site+1 < len(w.store.sites) {
		w.next = func() int { return w.heed(site + 1) }
	} else {
		w.next = func() int { return w.sweep(0) }
	}
	return passGoesOn
}

// sweep takes away a version that is gone, too, since nobody can tell it from
// none.
func (w *sweeper) sweep(key int) int {
	w.store.chains[key].cut(w.lowest, func(c content) bool { return c.gone })
	if key+1 < len(w.store.chains) {
		w.next = func() int { return w.sweep(key + 1) }
		return passGoesOn
	}
	w.next = w.start
	return passOver
}
