package mv

import "slices"

// Events and what else is there: P8.
func (s *Store) Events() []Event {
	s = s.locked()
	defer s.lock.Unlock()
	return slices.Clone(s.events)
}

// Chain looks at the chain when the loop begins, and lets go of the store
// ahead of the loop's body, which may call it again.
func (s *Store) Chain(key int) func(yield func(Version) bool) {
	return func(yield func(Version) bool) {
		for _, v := range s.versions(key) {
			if !yield(v) {
				return
			}
		}
	}
}

// versions answers those of a key, the newest first.
func (s *Store) versions(key int) []Version {
	s = s.locked()
	defer s.lock.Unlock()
	if !within(key, 0, len(s.chains)-1) {
		return nil
	}
	var list []Version
	for _, l := range slices.Backward(s.chains[key].links) {
		list = append(list, Version{l.stamp, l.what.gone, l.what.value})
	}
	return list
}

func (s *Store) Sites() []int {
	s = s.locked()
	defer s.lock.Unlock()
	return slices.Clone(s.sites)
}

func (s *Store) Marks() []Mark {
	s = s.locked()
	defer s.lock.Unlock()
	var list []Mark
	for key := range s.chains {
		if mark, ok := s.marks[key]; ok {
			list = append(list, mark)
		}
	}
	return list
}

func (s *Store) Clock() int {
	s = s.locked()
	defer s.lock.Unlock()
	return s.clock
}
