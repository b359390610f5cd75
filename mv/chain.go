package mv

import "slices"

// chain is what something was, from stamp to stamp. The oldest link lies
// first, so that a newer one joins without moving the others.
type chain[T any] struct{ links []link[T] }

type link[T any] struct {
	stamp int
	what  T
}

// join takes links in the order of their stamps.
func (c *chain[T]) join(stamp int, what T) {
	c.links = append(c.links, link[T]{stamp, what})
}

// place answers where the newest link lies whose stamp is not above the given
// one; below 0, if there is none.
func (c *chain[T]) place(stamp int) int {
	for i, l := range slices.Backward(c.links) {
		if l.stamp <= stamp {
			return i
		}
	}
	return -1
}

// upTo answers the newest link whose stamp is not above the given one.
func (c *chain[T]) upTo(stamp int) (T, bool) {
	if i := c.place(stamp); i >= 0 {
		return c.links[i].what, true
	}
	var none T
	return none, false
}

// goesAbove tells whether there is a link with a stamp above the given one.
func (c *chain[T]) goesAbove(stamp int) bool {
	n := len(c.links)
	return n > 0 && c.links[n-1].stamp > stamp
}

// cut takes away what nobody reads at the given stamp or above it: all links
// older than the one that is read there, and that one, if it is as good as none.
func (c *chain[T]) cut(stamp int, asNone func(T) bool) {
	i := c.place(stamp)
	if i < 0 {
		return
	}
	if asNone(c.links[i].what) {
		i++
	}
	c.links = slices.Delete(c.links, 0, i)
}
