package mv

import (
	"fmt"
	"testing"
)

// P4: one small step a turn, of the client that is picked; -1 at the end.
func TestPick(t *testing.T) {
	s := made(t, 2, 1, 9)
	a := joined(t, s, "begin, get 0")
	b := joined(t, s, "begin, put 0 x, get 0")
	empty, err := s.Client(nil)
	if err != nil {
		t.Fatal(err)
	}
	turns(t, s, empty, -1, -1)
	turns(t, s, b, 1)
	same(t, "events with a step half done", s.Events(), "[]")
	turns(t, s, a, 1)
	turns(t, s, b, 1)
	same(t, "sites", s.Sites(), "[0 -2]")
	turns(t, s, a, 1, 1, -1, -1)
	turns(t, s, b, 1, 1, -1)
	turns(t, s, a, -1)
	same(t, "events", s.Events(), "[{1 0 1  0} {0 0 1  0} {0 1 3  0} {1 1 1  0} {1 2 2 x 0}]")
	same(t, "sites at the end", s.Sites(), "[0 0]")
	_, err = s.Pick(3)
	refused(t, err, ErrClient, "Pick", 3)
}

// P4: a program of 200 steps is carried out to its end.
func TestLongProgram(t *testing.T) {
	s := made(t, 1, 1, 0)
	c, err := s.Client(long(200))
	if err != nil {
		t.Fatal(err)
	}
	for range 201 {
		turns(t, s, c, 1)
	}
	turns(t, s, c, -1)
	same(t, "the last events", told(s, 198), "[{0 198 3  0} {0 199 1  0}]")
}

// P5: begin takes the first site that is free, and looks at the clock in its second small step.
func TestBegin(t *testing.T) {
	s := made(t, 8, 1, 9)
	for want := range 8 {
		c := joined(t, s, "begin, abort, begin, abort")
		s.clock = want
		turns(t, s, c, 1)
		same(t, "the site", s.Sites()[want], -2)
		same(t, "events with a site that is taken", len(s.Events()), want)
		s.clock = want + 1
		turns(t, s, c, 1)
		same(t, "the site", s.Sites()[want], want+1)
		same(t, "the event", told(s, want), fmt.Sprintf("[{%d 0 1  %d}]", c, want+1))
	}
	turns(t, s, 5, 1)
	turns(t, s, 2, 1)
	same(t, "sites", s.Sites(), "[1 2 -1 4 5 -1 7 8]")
	turns(t, s, 5, 1)
	turns(t, s, 2, 1)
	same(t, "sites", s.Sites(), "[1 2 -2 4 5 -2 7 8]")
	turns(t, s, 2, 1, 1)
	turns(t, s, 5, 1, 1)
	same(t, "sites", s.Sites(), "[1 2 -1 4 5 -1 7 8]")
}

// P5: without a site the transaction is left out, up to its end and no further.
func TestNoSite(t *testing.T) {
	s := made(t, 1, 2, 9)
	a := joined(t, s, "begin, abort")
	b := joined(t, s, "begin, get 0, put 1 x, delete 0, get 1, commit, begin, put 0 y, abort, begin, get 1, get 0")
	c := joined(t, s, "begin, put 0 z")
	turns(t, s, a, 1)
	turns(t, s, b, 1, 1, 1, 1, 1, 1)
	same(t, "left out", s.Events(), "[{1 0 5  0} {1 1 7  0} {1 2 7  0} {1 3 7  0} {1 4 7  0} {1 5 7  0}]")
	same(t, "sites", s.Sites(), "[-2]")
	turns(t, s, a, 1)
	turns(t, s, b, 1)
	turns(t, s, c, 1, 1, -1)
	turns(t, s, a, 1, -1)
	turns(t, s, b, 1, 1)
	same(t, "left out again, though a site came free", told(s, 6), "[{0 0 1  0} {1 6 5  0} {2 0 5  0} {2 1 7  0} {0 1 1  0} {1 7 7  0} {1 8 7  0}]")
	same(t, "sites", s.Sites(), "[-1]")
	turns(t, s, b, 1, 1, 1, 1, -1)
	same(t, "one that runs", told(s, 13), "[{1 9 1  0} {1 10 3  0} {1 11 3  0}]")
	same(t, "sites", s.Sites(), "[0]")
}

// P5: a transaction reads what it has written last, and nobody else does.
func TestOwnWrites(t *testing.T) {
	s := made(t, 2, 20, 9)
	s.chains[0].join(1, content{value: "old"})
	s.clock = 1
	a := joined(t, s, "begin, get 0, put 0 a, get 0, put 0 b, get 0, delete 0, get 0, put 0, get 0, delete 19, get 19, put 19 sixteen-bytes-va, get 19, get 1, abort, begin, get 0, get 19")
	b := joined(t, s, "begin, get 0, get 19")
	turns(t, s, a, 1, 1)
	for range 14 {
		turns(t, s, a, 1)
	}
	same(t, "events", told(s, 1), "[{0 1 2 old 0} {0 2 1  0} {0 3 2 a 0} {0 4 1  0} {0 5 2 b 0} {0 6 1  0} {0 7 3  0} {0 8 1  0} {0 9 2  0} {0 10 1  0} {0 11 3  0} {0 12 1  0} {0 13 2 sixteen-bytes-va 0} {0 14 3  0}]")
	turns(t, s, b, 1, 1, 1, 1)
	same(t, "what another one reads", told(s, 15), "[{1 0 1  1} {1 1 2 old 0} {1 2 3  0}]")
	turns(t, s, a, 1)
	same(t, "aborted", fmt.Sprint(s.Sites(), told(s, 18)), "[-1 1][{0 15 1  0}]")
	turns(t, s, a, 1, 1, 1, 1, -1)
	same(t, "the next transaction", told(s, 19), "[{0 16 1  1} {0 17 2 old 0} {0 18 3  0}]")
	same(t, "chains", fmt.Sprint(versions(s, 0), versions(s, 19)), "[{1 false old}] []")
}

// P5: a transaction reads the newest version that is not above its beginning.
func TestGetOfVersions(t *testing.T) {
	for began, want := range []string{"3 ", "3 ", "2 b", "2 b", "3 ", "2 ", "2 ", "2 g", "2 g"} {
		s := made(t, 1, 2, 9)
		s.chains[1].join(2, content{value: "b"})
		s.chains[1].join(4, content{gone: true})
		s.chains[1].join(5, content{})
		s.chains[1].join(7, content{value: "g"})
		s.clock = began
		c := joined(t, s, "begin, get 1, get 0")
		turns(t, s, c, 1, 1)
		s.clock = 9
		turns(t, s, c, 1, 1)
		same(t, "a get", told(s, 1), fmt.Sprintf("[{0 1 %s 0} {0 2 3  0}]", want))
	}
}

// P5: a get is held up by another one's mark with a stamp that is not above its beginning.
func TestGetOfMarks(t *testing.T) {
	for _, c := range []struct{ client, stamp, want int }{
		{1, 0, 1}, {1, 1, 0}, {1, 2, 0}, {1, 3, 1}, {7, 2, 0}, {0, 2, 1}, {0, 1, 1},
	} {
		s := made(t, 1, 2, 9)
		s.clock = 2
		s.chains[0].join(1, content{value: "a"})
		s.marks[0] = Mark{0, c.client, c.stamp}
		joined(t, s, "begin, get 0, get 1")
		turns(t, s, 0, 1, 1, c.want)
		same(t, "how many events", len(s.Events()), 1+c.want)
	}
}

// P5: while it is held up nothing changes; then it reads what has come.
func TestHeldUp(t *testing.T) {
	s := made(t, 1, 2, 9)
	s.clock = 2
	s.marks[0] = Mark{0, 1, 2}
	c := joined(t, s, "begin, get 1, put 1 own, get 1, get 0, get 0")
	turns(t, s, c, 1, 1, 1, 1, 1)
	before := state(s)
	turns(t, s, c, 0, 0, 0)
	same(t, "state of what is held up", state(s), before)
	s.chains[0].join(2, content{value: "new"})
	delete(s.marks, 0)
	turns(t, s, c, 1, 1, -1)
	same(t, "events", told(s, 3), "[{0 3 2 own 0} {0 4 2 new 0} {0 5 2 new 0}]")
}

// P5: what the transaction has written itself comes ahead of another one's mark.
func TestOwnWriteIsNotHeldUp(t *testing.T) {
	s := made(t, 1, 1, 9)
	s.clock = 2
	s.marks[0] = Mark{0, 1, 2}
	c := joined(t, s, "begin, put 0 own, get 0, delete 0, get 0, abort")
	turns(t, s, c, 1, 1, 1, 1, 1, 1, 1, -1)
	same(t, "events", told(s, 1), "[{0 1 1  0} {0 2 2 own 0} {0 3 1  0} {0 4 3  0} {0 5 1  0}]")
	same(t, "marks", s.Marks(), "[{0 1 2}]")
}

// P6, its first sentence: a commit of what has written nothing.
func TestCommitOfNothing(t *testing.T) {
	s := made(t, 2, 1, 0)
	s.chains[0].join(0, content{value: "v"})
	c := joined(t, s, "begin, commit, begin, get 0, commit, begin, put 0 x, delete 0, abort, begin, commit")
	turns(t, s, c, 1, 1)
	same(t, "sites", s.Sites(), "[0 -1]")
	turns(t, s, c, 1)
	same(t, "committed", fmt.Sprint(s.Sites(), s.Clock(), s.Marks(), told(s, 1)), "[-1 -1] 0 [][{0 1 1  0}]")
	turns(t, s, c, 1, 1, 1, 1)
	same(t, "committed, with a get", fmt.Sprint(s.Sites(), told(s, 2)), "[-1 -1][{0 2 1  0} {0 3 2 v 0} {0 4 1  0}]")
	turns(t, s, c, 1, 1, 1, 1, 1)
	turns(t, s, c, 1, 1, 1, -1)
	same(t, "committed, behind an abort", fmt.Sprint(s.Sites(), s.Clock(), told(s, 8)), "[-1 -1] 0[{0 8 1  0} {0 9 1  0} {0 10 1  0}]")
	same(t, "the chain", versions(s, 0), "[{0 false v}]")
}

// P6, its first sentence: the stamp is 0, whatever the clock is.
func TestCommitOfNothingHasNoStamp(t *testing.T) {
	s := made(t, 1, 1, 5)
	s.clock = 5
	c := joined(t, s, "begin, get 0, commit")
	turns(t, s, c, 1, 1, 1, 1, -1)
	same(t, "events", s.Events(), "[{0 0 1  5} {0 1 3  0} {0 2 1  0}]")
	same(t, "clock", s.Clock(), 5)
}
