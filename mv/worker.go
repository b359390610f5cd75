package mv

// worker is a goroutine that does one small step whenever it is told to.
type worker struct {
	turns   chan struct{}
	answers chan int
}

// hire starts a worker, which Stop ends.
func (s *Store) hire(step func() int) worker {
	w := worker{make(chan struct{}), make(chan int)}
	s.workers.Add(1)
	go func() {
		defer s.workers.Done()
		for {
			select {
			case <-w.turns:
				w.answers <- step()
			case <-s.ended:
				return
			}
		}
	}()
	return w
}

// work waits for the small step to be done: the caller holds the store's
// lock, so no two workers are ever at work, and none is when the store ends.
func (w worker) work() int {
	w.turns <- struct{}{}
	return <-w.answers
}
