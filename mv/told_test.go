package mv

import (
	"fmt"
	"runtime"
	"strings"
	"testing"
	"time"
)

// laid is a store with versions of key 1.
func laid(t *testing.T) *Store {
	t.Helper()
	s := made(t, 1, 20, 9)
	s.chains[1].join(1, content{value: "a"})
	s.chains[1].join(3, content{gone: true})
	s.chains[1].join(4, content{value: "d"})
	return s
}

// P8: a chain is told newest first; what is no key has none.
func TestChain(t *testing.T) {
	s := laid(t)
	same(t, "the chain", versions(s, 1), "[{4 false d} {3 true } {1 false a}]")
	for _, key := range []int{0, 2, 19, 20, -1, -1 << 63, 1<<63 - 1} {
		same(t, "no chain", versions(s, key), "[]")
	}
}

// P8: the versions are those of the loop's beginning, however often it begins.
func TestChainAsTheLoopBegins(t *testing.T) {
	s := laid(t)
	all := s.Chain(1)
	s.chains[1].join(5, content{value: "e"})
	n := 0
	for v := range all {
		if n == 0 {
			same(t, "the first one", v, "{5 false e}")
			s.chains[1].links = s.chains[1].links[:1]
			s.chains[1].links[0].stamp = 8
		}
		n++
	}
	same(t, "how many of the first loop", n, 4)
	n = 0
	for v := range all {
		same(t, "the only one", v, "{8 false a}")
		n++
	}
	same(t, "how many of the second loop", n, 1)
}

// P8: the loop may be left, and its body may call the store.
func TestChainLoop(t *testing.T) {
	s := laid(t)
	c := joined(t, s, "begin, get 1")
	n := 0
	for range s.Chain(1) {
		n++
		turns(t, s, c, 1)
		same(t, "the chain within the loop", len(versions(s, 1)), 3)
		if n == 2 {
			break
		}
	}
	same(t, "how many", n, 2)
	for range s.Chain(1) {
		s.Stop()
	}
}

// P1: the loop panics where its body does; the store goes on.
func TestChainBodyPanics(t *testing.T) {
	s := laid(t)
	func() {
		defer func() { same(t, "the panic", recover(), "body") }()
		for range s.Chain(1) {
			panic("body")
		}
	}()
	same(t, "the chain behind it", len(versions(s, 1)), 3)
}

// P8: marks are told by their keys.
func TestMarks(t *testing.T) {
	s := made(t, 1, 20, 9)
	same(t, "no marks", len(s.Marks()), 0)
	for _, key := range []int{19, 3, 0, 11, 7} {
		s.marks[key] = Mark{key, key % 8, key / 2}
	}
	for range 10 {
		same(t, "marks", s.Marks(), "[{0 0 0} {3 3 1} {7 7 3} {11 3 5} {19 3 9}]")
	}
}

func TestClockAndEvents(t *testing.T) {
	s := made(t, 1, 1, 9)
	same(t, "at first", fmt.Sprint(s.Clock(), s.Events()), "0 []")
	s.clock = 9
	same(t, "the clock", s.Clock(), 9)
	c := joined(t, s, "begin, abort, begin, abort")
	for want := range 4 {
		same(t, "how many events so far", len(s.Events()), want)
		for len(s.Events()) == want {
			turns(t, s, c, 1)
		}
	}
}

// workers counts the goroutines of all stores.
func workers() int {
	text := make([]byte, 1<<20)
	text = text[:runtime.Stack(text, true)]
	return strings.Count(string(text), "created by mvstore/mv.")
}

// waitFor gives goroutines whose work is over the time to leave.
func waitFor(t *testing.T, want int) {
	t.Helper()
	for range 500 {
		if workers() == want {
			return
		}
		time.Sleep(10 * time.Millisecond)
	}
	t.Fatalf("%d goroutines, want %d", workers(), want)
}

// A small step is done by the goroutine of the client, or of the sweeper, not by whoever calls.
func TestWhoDoesTheStep(t *testing.T) {
	s := made(t, 1, 1, 9)
	c := joined(t, s, "begin")
	where := ""
	look := func() int {
		text := make([]byte, 1<<16)
		where = string(text[:runtime.Stack(text, false)])
		return stepped
	}
	s.clients[c].next, s.sweeper.next = look, look
	for what, call := range map[string]func(){"Pick": func() { s.Pick(c) }, "Sweep": func() { s.Sweep() }} {
		where = ""
		call()
		if !strings.Contains(where, "created by mvstore/mv.") {
			t.Errorf("%s: the step was done by %s", what, where)
		}
	}
}

// P8: behind Stop every goroutine has ended, wherever its client was; what is there is told.
func TestStop(t *testing.T) {
	waitFor(t, 0)
	s := laid(t)
	s.clock = 4
	s.marks[0] = Mark{0, 7, 4}
	for range 8 {
		joined(t, s, "begin, get 0, abort")
	}
	waitFor(t, 9) // and the sweeper
	turns(t, s, 0, 1, 1, 0)
	turns(t, s, 1, 1, 1, 1, -1)
	before := state(s)
	s.Stop()
	waitFor(t, 0)
	same(t, "state behind Stop", state(s), before)
	same(t, "sites behind Stop", s.Sites(), "[4]")
	same(t, "events behind Stop", s.Events(), "[{0 0 1  4} {1 0 5  0} {1 1 7  0} {1 2 7  0}]")
	same(t, "chain behind Stop", len(versions(s, 1)), 3)
	same(t, "marks and clock behind Stop", fmt.Sprint(s.Marks(), s.Clock()), "[{0 7 4}] 4")
	s.Stop()
	same(t, "state behind another Stop", state(s), before)
}

// P8: Stop does not answer ahead of the last goroutine's end.
func TestStopWaits(t *testing.T) {
	s := made(t, 1, 1, 0)
	s.workers.Add(1)
	stopped := make(chan struct{})
	go func() {
		defer close(stopped)
		s.Stop()
	}()
	<-s.ended
	select {
	case <-stopped:
		t.Error("Stop has answered, and somebody is still at work")
	case <-time.After(50 * time.Millisecond):
	}
	s.workers.Done()
	<-stopped
}

// P8: Stop of a store without clients ends, too; a store that is stopped leaves others alone.
func TestStopAlone(t *testing.T) {
	s, other := made(t, 1, 1, 0), made(t, 1, 1, 0)
	c := joined(t, other, "begin, abort")
	s.Stop()
	turns(t, other, c, 1, 1, 1, -1)
}
