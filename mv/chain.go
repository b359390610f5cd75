package mv

// chain is what something was, from stamp to stamp. The oldest link lies
// first, so that a newer one joins without moving the others.
type chain[T any] struct{ links []link[T] }

type link[T any] struct {
	stamp int
	what  T
}

// join takes links in the order of their stamps.
func (c *chain[T]) join(stamp int, what T) {
	c.links = append(c.links, link[T]{stamp, what})
}

// upTo answers the newest link whose stamp is not above the given one.
func (c *chain[T]) upTo(stamp int) (T, bool) {
	for i := len(c.links) - 1; i >= 0; i-- {
		if c.links[i].stamp <= stamp {
			return c.links[i].what, true
		}
	}
	var none T
	return none, false
}

// goesAbove tells whether there is a link with a stamp above the given one.
func (c *chain[T]) goesAbove(stamp int) bool {
	n := len(c.links)
	return n > 0 && c.links[n-1].stamp > stamp
}
