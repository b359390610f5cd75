package mv

import (
	"errors"
	"fmt"
	"runtime"
	"slices"
	"strings"
	"sync"
	"testing"
)

// P1: with an error nothing has changed, and what is answered beside it is zero.
func TestErrorsChangeNothing(t *testing.T) {
	s := made(t, 2, 2, 9)
	c := joined(t, s, "begin, put 0 x, get 0, abort")
	turns(t, s, c, 1, 1, 1)
	s.chains[1].join(1, content{value: "v"})
	s.marks[1] = Mark{1, 5, 1}
	s.clock = 1
	before := state(s)
	for _, l := range [][]Step{program(t, "commit"), program(t, "begin, get 2"), make([]Step, 201)} {
		n, err := s.Client(l)
		refused(t, err, ErrProgram, "Client", 0)
		same(t, "number beside ErrProgram", n, 0)
	}
	for _, at := range []int{-1 << 63, -1, 1, 8, 1<<63 - 1} {
		n, err := s.Pick(at)
		refused(t, err, ErrClient, "Pick", at)
		same(t, "answer beside ErrClient", n, 0)
	}
	same(t, "state behind errors", state(s), before)
	turns(t, s, c, 1, 1, -1)
	same(t, "events behind errors", told(s, 2), "[{0 2 2 x 0} {0 3 1  0}]")
	same(t, "number of the next client", joined(t, s, "begin"), 1)
}

// P1: ErrStopped comes ahead of all else.
func TestStoppedComesFirst(t *testing.T) {
	s := made(t, 1, 1, 1)
	for range 8 {
		joined(t, s, "begin")
	}
	turns(t, s, 0, 1)
	s.Stop()
	before := state(s)
	for _, l := range [][]Step{nil, program(t, "begin"), program(t, "commit"), make([]Step, 201)} {
		n, err := s.Client(l)
		refused(t, err, ErrStopped, "Client", 0)
		same(t, "number beside ErrStopped", n, 0)
	}
	for _, at := range []int{0, 7, 8, -1} {
		n, err := s.Pick(at)
		refused(t, err, ErrStopped, "Pick", at)
		same(t, "answer beside ErrStopped", n, 0)
	}
	over, err := s.Sweep()
	refused(t, err, ErrStopped, "Sweep", 0)
	same(t, "answer beside ErrStopped", over, false)
	same(t, "state behind Stop", state(s), before)
}

func TestErrorTexts(t *testing.T) {
	for _, e := range []error{ErrShape, ErrProgram, ErrMany, ErrClient, ErrStopped} {
		text := (&CallError{"Pick", -7, e}).Error()
		if !strings.Contains(text, "Pick") || !strings.Contains(text, "-7") || !strings.Contains(text, e.Error()) {
			t.Errorf("text of an error: %q", text)
		}
	}
	var none *CallError
	if none.Unwrap() != nil || none.Error() == "" || (&CallError{}).Error() == "" {
		t.Errorf("an error of nothing has no text, or something in it")
	}
	if errors.Is(&CallError{"Pick", 0, ErrClient}, ErrMany) {
		t.Errorf("an error is another one")
	}
}

// P1: arguments are only read, and not kept.
func TestProgramIsTheCallers(t *testing.T) {
	s := made(t, 1, 1, 1)
	mine := program(t, "begin, put 0 x, get 0, abort")
	copied := slices.Clone(mine)
	c, err := s.Client(mine)
	if err != nil || !slices.Equal(mine, copied) {
		t.Fatalf("the program is now %v; %v", mine, err)
	}
	turns(t, s, c, 1, 1, 1)
	clear(mine)
	turns(t, s, c, 1, 1, -1)
	same(t, "events", s.Events(), "[{0 0 1  0} {0 1 1  0} {0 2 2 x 0} {0 3 1  0}]")
}

// P1: lists that are answered are new.
func TestListsAreNew(t *testing.T) {
	s := made(t, 2, 2, 9)
	turns(t, s, joined(t, s, "begin"), 1, 1)
	s.marks[1] = Mark{1, 0, 2}
	before := state(s)
	s.Events()[0] = Event{9, 9, 9, "x", 9}
	s.Sites()[0] = 9
	s.Marks()[0] = Mark{9, 9, 9}
	_ = append(s.Events()[:0], Event{})
	_ = append(s.Sites()[:0], 9)
	_ = append(s.Marks()[:0], Mark{})
	same(t, "state behind changes of lists", state(s), before)
}

// mixed drives eight clients by a fixed rule, and answers all that was told.
func mixed(t *testing.T) string {
	t.Helper()
	s := made(t, 5, 3, 9)
	text := "begin, get 0, put 1 x, get 1, delete 1, get 1, abort, begin, get 2, commit, begin, put 0 y, get 0, put %d z, delete 2, commit, begin, get 1, get 2"
	for c := range 8 {
		joined(t, s, fmt.Sprintf(text, c%3))
	}
	seen := ""
	for i := range 300 {
		n, err := s.Pick((i*i + i/7) % 8)
		over, wrong := s.Sweep()
		seen += fmt.Sprint(n, err, over, wrong, s.Sites(), s.Marks(), s.Clock(), versions(s, i%3))
	}
	s.Stop()
	return seen + state(s)
}

// P1: what is answered is the same however goroutines run.
func TestSameHoweverGoroutinesRun(t *testing.T) {
	want := mixed(t)
	defer runtime.GOMAXPROCS(runtime.GOMAXPROCS(0))
	for _, n := range []int{1, 2, 8} {
		runtime.GOMAXPROCS(n)
		for range 5 {
			same(t, "a second run", mixed(t), want)
		}
	}
}

// P1: every call ends, whoever calls at the same time.
func TestCallsAtOnce(t *testing.T) {
	s := made(t, 8, 2, 9)
	for range 8 {
		joined(t, s, "begin, get 0, put 0 x, get 0, abort, begin, delete 0, put 1 x, commit")
	}
	var callers sync.WaitGroup
	for c := range 8 {
		callers.Go(func() {
			for n := 1; n >= 0; n, _ = s.Pick(c) {
				state(s)
				s.Client(nil)
				s.Sweep()
			}
		})
	}
	callers.Wait()
	same(t, "how many events", len(s.Events()), 72)
	pass(t, s)
	pass(t, s)
	same(t, "what is left", fmt.Sprint(len(versions(s, 0)), len(versions(s, 1))), "0 1")
	for range 4 {
		callers.Go(s.Stop)
		callers.Go(func() { s.Pick(0) })
	}
	callers.Wait()
	_, err := s.Pick(0)
	refused(t, err, ErrStopped, "Pick", 0)
}

// P1: no call panics: not of a store either that New has not made.
func TestNoStore(t *testing.T) {
	for _, s := range []*Store{nil, {}} {
		s.Stop()
		_, err := s.Client(nil)
		refused(t, err, ErrStopped, "Client", 0)
		_, err = s.Pick(3)
		refused(t, err, ErrStopped, "Pick", 3)
		_, err = s.Sweep()
		refused(t, err, ErrStopped, "Sweep", 0)
		same(t, "what is there", fmt.Sprint(s.Sites(), s.Marks(), s.Events(), s.Clock(), versions(s, 0)), "[] [] [] 0 []")
	}
}
