package mv

import (
	"maps"
	"slices"
)

// commit is the first small step of one. What has written nothing has no
// other.
func (c *client) commit() int {
	if len(c.wrote) == 0 {
		return c.finish(done, 0)
	}
	return c.mark(c.keys())
}

// keys answers those that the transaction has written, in their order.
func (c *client) keys() []int { return slices.Sorted(maps.Keys(c.wrote)) }

// mark sets the mark on the first one of the keys; the others are left for
// the small steps to come.
func (c *client) mark(keys []int) int {
	key, rest := keys[0], keys[1:]
	if c.clashes(key) {
		return c.giveUp(conflict)
	}
	c.store.marks[key] = Mark{Key: key, Client: c.number}
	if len(rest) > 0 {
		c.next = func() int { return c.mark(rest) }
	} else {
		c.next = c.takeStamp
	}
	return stepped
}

// clashes tells whether another transaction is about to write the key, or has
// written it since this one began.
func (c *client) clashes(key int) bool {
	mark, ok := c.store.marks[key]
	return ok && mark.Client != c.number || c.store.chains[key].goesAbove(c.began)
}

// takeStamp gives the stamp to all marks at once: from here on whoever begins
// must see all of the transaction, and waits at a mark for what is not there
// yet.
func (c *client) takeStamp() int {
	if c.store.clock >= c.store.limit {
		return c.giveUp(atLimit)
	}
	c.store.clock++
	stamp := c.store.clock
	for key := range c.wrote {
		c.store.marks[key] = Mark{key, c.number, stamp}
	}
	keys := c.keys()
	c.next = func() int { return c.lay(keys, stamp) }
	return stepped
}

// lay puts the version of the first one of the keys where its mark was.
func (c *client) lay(keys []int, stamp int) int {
	key, rest := keys[0], keys[1:]
	c.store.chains[key].join(stamp, c.wrote[key])
	delete(c.store.marks, key)
	if len(rest) > 0 {
		c.next = func() int { return c.lay(rest, stamp) }
	} else {
		c.next = func() int { return c.finish(done, stamp) }
	}
	return stepped
}

// giveUp ends a commit that fails: of the keys that the transaction has
// written some may have no mark yet, and others one of somebody else.
func (c *client) giveUp(outcome int) int {
	for key := range c.wrote {
		if c.store.marks[key].Client == c.number {
			delete(c.store.marks, key)
		}
	}
	return c.finish(outcome, 0)
}

// finish ends a transaction.
func (c *client) finish(outcome, stamp int) int {
	c.store.sites[c.site] = free
	clear(c.wrote)
	return c.answer(outcome, "", stamp)
}
