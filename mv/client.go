package mv

import "slices"

// content is what a version has, and what a transaction writes.
type content struct {
	gone  bool
	value string
}

// client carries out a program. All but its worker is touched by its own
// goroutine only.
type client struct {
	worker
	store   *Store
	number  int
	program []Step
	at      int
	next    func() int // what it does at its next turn

	out   bool // the transaction found no site, and does not run
	site  int
	began int
	wrote map[int]content
}

func (s *Store) newClient(program []Step) *client {
	c := &client{
		store:   s,
		number:  len(s.clients),
		program: slices.Clone(program),
		wrote:   map[int]content{},
	}
	c.prepare()
	c.worker = s.hire(func() int { return c.next() })
	return c
}

// prepare keeps the first small step of the program's step that is to come.
func (c *client) prepare() {
	if c.at == len(c.program) {
		c.next = func() int { return atEnd }
		return
	}
	step := c.program[c.at]
	if c.out {
		c.next = c.leaveOut
		return
	}
	switch step.Kind {
	case begin:
		c.next = c.takeSite
	case get:
		c.next = func() int { return c.get(step.Key) }
	case put:
		c.next = func() int { return c.write(step.Key, content{value: step.Value}) }
	case remove:
		c.next = func() int { return c.write(step.Key, content{gone: true}) }
	case commit:
		c.next = c.commit
	case abort:
		c.next = func() int { return c.finish(done, 0) }
	}
}

// answer ends a step of the program.
func (c *client) answer(outcome int, value string, stamp int) int {
	c.store.events = append(c.store.events, Event{c.number, c.at, outcome, value, stamp})
	c.at++
	c.prepare()
	return stepped
}

func (c *client) takeSite() int {
	c.site = slices.Index(c.store.sites, free)
	if c.site < 0 {
		c.out = true
		return c.answer(noSite, "", 0)
	}
	c.store.sites[c.site] = taken
	c.next = c.holdSite
	return stepped
}

func (c *client) holdSite() int {
	c.began = c.store.clock
	c.store.sites[c.site] = c.began
	return c.answer(done, "", c.began)
}

func (c *client) leaveOut() int {
	c.out = !ends(c.program[c.at])
	return c.answer(leftOut, "", 0)
}

func (c *client) write(key int, what content) int {
	c.wrote[key] = what
	return c.answer(done, "", 0)
}

func (c *client) get(key int) int {
	if what, ok := c.wrote[key]; ok {
		return c.tell(what)
	}
	if c.mustWait(key) {
		return heldUp
	}
	what, ok := c.store.chains[key].upTo(c.began)
	if !ok {
		what.gone = true
	}
	return c.tell(what)
}

// mustWait tells whether another client is about to write a version of the
// key that this transaction has to see.
func (c *client) mustWait(key int) bool {
	mark, ok := c.store.marks[key]
	return ok && mark.Client != c.number && mark.Stamp != 0 && mark.Stamp <= c.began
}

func (c *client) tell(what content) int {
	if what.gone {
		return c.answer(notFound, "", 0)
	}
	return c.answer(found, what.value, 0)
}
