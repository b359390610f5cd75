package mv

import (
	"slices"
	"sync"
)

const (
	mostSites   = 8
	mostKeys    = 20
	mostClients = 8
	mostLimit   = 1000000
)

// What Sites answers for a site that holds no number.
const (
	free  = -1
	taken = -2
)

// Store keeps versions of values by keys. One that New has not made is like
// one that has been stopped, and has nothing in it.
type Store struct {
	lock    sync.Mutex
	open    bool
	ended   chan struct{}
	workers sync.WaitGroup

	limit   int
	clock   int
	sites   []int
	chains  []chain[content]
	marks   map[int]Mark
	clients []*client
	sweeper *sweeper
	events  []Event
}

// New: P2.
func New(sites, keys, limit int) (*Store, error) {
	if !within(sites, 1, mostSites) || !within(keys, 1, mostKeys) || !within(limit, 0, mostLimit) {
		return nil, ErrShape
	}
	s := &Store{
		open:   true,
		ended:  make(chan struct{}),
		limit:  limit,
		sites:  slices.Repeat([]int{free}, sites),
		chains: make([]chain[content], keys),
		marks:  map[int]Mark{},
	}
	s.sweeper = s.newSweeper()
	return s, nil
}

func within(n, least, most int) bool { return n >= least && n <= most }

// locked answers the store, locked; of no store an empty one, since no call
// may panic.
func (s *Store) locked() *Store {
	if s == nil {
		s = &Store{}
	}
	s.lock.Lock()
	return s
}

// Client: P3.
func (s *Store) Client(program []Step) (int, error) {
	s = s.locked()
	defer s.lock.Unlock()
	switch {
	case !s.open:
		return 0, &CallError{"Client", 0, ErrStopped}
	case !right(program, len(s.chains)):
		return 0, &CallError{"Client", 0, ErrProgram}
	case len(s.clients) == mostClients:
		return 0, &CallError{"Client", 0, ErrMany}
	}
	c := s.newClient(program)
	s.clients = append(s.clients, c)
	return c.number, nil
}

// Pick: P4 to P6.
func (s *Store) Pick(c int) (int, error) {
	s = s.locked()
	defer s.lock.Unlock()
	switch {
	case !s.open:
		return 0, &CallError{"Pick", c, ErrStopped}
	case !within(c, 0, len(s.clients)-1):
		return 0, &CallError{"Pick", c, ErrClient}
	}
	return s.clients[c].work(), nil
}

// Sweep: P7.
func (s *Store) Sweep() (bool, error) {
	s = s.locked()
	defer s.lock.Unlock()
	if !s.open {
		return false, &CallError{"Sweep", 0, ErrStopped}
	}
	return s.sweeper.work() == passOver, nil
}

// Stop ends every goroutine of the store: P8.
func (s *Store) Stop() {
	s = s.locked()
	defer s.lock.Unlock()
	if !s.open {
		return
	}
	s.open = false
	close(s.ended)
	s.workers.Wait()
}
