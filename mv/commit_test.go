package mv

import (
	"fmt"
	"slices"
	"testing"
)

// look is what a commit changes, as one text: marks, chains, sites, clock, and the events from a place on.
func look(s *Store, from int) string {
	text := fmt.Sprint(s.Marks())
	for key := range s.chains {
		text += fmt.Sprint(" ", versions(s, key))
	}
	return text + fmt.Sprint(" ", s.Sites(), " ", s.Clock(), " ", told(s, from))
}

// looks picks the client, and holds what is to be seen behind each small step against what must be.
func looks(t *testing.T, s *Store, c, from int, want ...string) {
	t.Helper()
	for i, w := range want {
		turns(t, s, c, 1)
		same(t, fmt.Sprint("behind small step ", i), look(s, from), w)
	}
}

// ran picks the client until its program is at an end.
func ran(t *testing.T, s *Store, c int) {
	t.Helper()
	for range 10000 {
		n, err := s.Pick(c)
		if err != nil || n == 0 {
			t.Fatalf("client %d: %d, %v; %s", c, n, err, state(s))
		}
		if n < 0 {
			return
		}
	}
	t.Fatalf("client %d does not come to an end", c)
}

// P6: several keys, one of them written more than once, one deleted, one left alone.
func TestCommitStepByStep(t *testing.T) {
	s := made(t, 2, 4, 9)
	c := joined(t, s, "begin, put 3 x, put 0 y, put 3 z, delete 1, commit")
	turns(t, s, c, 1, 1, 1, 1, 1, 1)
	same(t, "ahead of the commit", look(s, 5), "[] [] [] [] [] [0 -1] 0 []")
	looks(t, s, c, 5,
		"[{0 0 0}] [] [] [] [] [0 -1] 0 []",
		"[{0 0 0} {1 0 0}] [] [] [] [] [0 -1] 0 []",
		"[{0 0 0} {1 0 0} {3 0 0}] [] [] [] [] [0 -1] 0 []",
		"[{0 0 1} {1 0 1} {3 0 1}] [] [] [] [] [0 -1] 1 []",
		"[{1 0 1} {3 0 1}] [{1 false y}] [] [] [] [0 -1] 1 []",
		"[{3 0 1}] [{1 false y}] [{1 true }] [] [] [0 -1] 1 []",
		"[] [{1 false y}] [{1 true }] [] [{1 false z}] [0 -1] 1 []",
		"[] [{1 false y}] [{1 true }] [] [{1 false z}] [-1 -1] 1 [{0 5 1  1}]",
	)
	turns(t, s, c, -1, -1)
}

// P6: one key is marked, stamped, laid and left: four small steps.
func TestCommitOfOneKey(t *testing.T) {
	s := made(t, 1, 1, 9)
	c := joined(t, s, "begin, put 0, commit")
	turns(t, s, c, 1, 1, 1)
	looks(t, s, c, 2,
		"[{0 0 0}] [] [0] 0 []",
		"[{0 0 1}] [] [0] 1 []",
		"[] [{1 false }] [0] 1 []",
		"[] [{1 false }] [-1] 1 [{0 2 1  1}]",
	)
	turns(t, s, c, -1)
}

// P6: the keys go in their order, however many there are and in whatever order they were written.
func TestCommitGoesByKeys(t *testing.T) {
	for range 20 {
		s := made(t, 1, 20, 9)
		text := "begin"
		for i := range 20 {
			text += fmt.Sprintf(", put %d v%d", i*7%20, i*7%20)
		}
		c := joined(t, s, text+", commit")
		for range 22 {
			turns(t, s, c, 1)
		}
		var marks []Mark
		for key := range 20 {
			turns(t, s, c, 1)
			marks = append(marks, Mark{key, 0, 0})
			same(t, "marks", s.Marks(), marks)
		}
		turns(t, s, c, 1)
		for key := range marks {
			marks[key].Stamp = 1
		}
		for key := range 20 {
			same(t, "marks", s.Marks(), marks[key:])
			same(t, "no version yet", versions(s, key), "[]")
			turns(t, s, c, 1)
			same(t, "the version", versions(s, key), fmt.Sprintf("[{1 false v%d}]", key))
		}
		turns(t, s, c, 1, -1)
		s.Stop()
	}
}

// P6: what was written last is what stays: a value behind a delete, a delete behind a value.
func TestCommitOfTheLastWrite(t *testing.T) {
	s := made(t, 1, 3, 9)
	c := joined(t, s, "begin, put 0 a, delete 0, put 0 b, delete 1, put 1 c, delete 1, put 2 d, put 2, commit, begin, get 0, get 1, get 2")
	ran(t, s, c)
	same(t, "what is there", look(s, 9), "[] [{1 false b}] [{1 true }] [{1 false }] [1] 1 [{0 9 1  1} {0 10 1  1} {0 11 2 b 0} {0 12 3  0} {0 13 2  0}]")
}

// P6: the stamp is the clock's at the commit, not the one of the beginning; the clock goes up by one.
func TestStampsGoUp(t *testing.T) {
	s := made(t, 3, 2, 9)
	a := joined(t, s, "begin, put 0 a, commit")
	b := joined(t, s, "begin, put 1 b, commit, begin, put 1 c, commit")
	turns(t, s, a, 1, 1, 1, 1)
	ran(t, s, b)
	same(t, "b", look(s, 2), "[{0 0 0}] [] [{2 false c} {1 false b}] [0 -1 -1] 2 [{1 0 1  0} {1 1 1  0} {1 2 1  1} {1 3 1  1} {1 4 1  0} {1 5 1  2}]")
	ran(t, s, a)
	same(t, "a", look(s, 8), "[] [{3 false a}] [{2 false c} {1 false b}] [-1 -1 -1] 3 [{0 2 1  3}]")
}

// P6: two commits go on side by side; each lays its own stamp.
func TestCommitsSideBySide(t *testing.T) {
	s := made(t, 2, 4, 9)
	a := joined(t, s, "begin, put 0 a, put 2 a, commit")
	b := joined(t, s, "begin, put 1 b, put 3 b, commit")
	turns(t, s, a, 1, 1, 1, 1, 1, 1)
	turns(t, s, b, 1, 1, 1, 1, 1, 1, 1)
	same(t, "b has its stamp", look(s, 6), "[{0 0 0} {1 1 1} {2 0 0} {3 1 1}] [] [] [] [] [0 0] 1 []")
	turns(t, s, a, 1, 1)
	same(t, "a has its stamp", look(s, 6), "[{1 1 1} {2 0 2} {3 1 1}] [{2 false a}] [] [] [] [0 0] 2 []")
	ran(t, s, b)
	same(t, "b is committed", look(s, 6), "[{2 0 2}] [{2 false a}] [{1 false b}] [] [{1 false b}] [0 -1] 2 [{1 3 1  1}]")
	ran(t, s, a)
	same(t, "a is committed", look(s, 7), "[] [{2 false a}] [{1 false b}] [{2 false a}] [{1 false b}] [-1 -1] 2 [{0 3 1  2}]")
}

// P6: another client's mark on the first key, and on the last: its own marks are gone, those of others are not.
func TestConflictWithMark(t *testing.T) {
	for _, c := range []struct {
		other, own string
		marked     int
		want       string
	}{
		{"put 0 o", "put 0 x, put 1 x, put 2 x", 0, "[{0 0 0}]"},
		{"put 1 o", "put 2 x, put 1 x, put 0 x", 1, "[{1 0 0}]"},
		{"put 2 o", "put 0 x, delete 1, put 2 x", 2, "[{2 0 0}]"},
		{"delete 2", "delete 2", 0, "[{2 0 0}]"},
	} {
		s := made(t, 3, 3, 9)
		other := joined(t, s, "begin, "+c.other+", commit")
		own := joined(t, s, "begin, "+c.own+", commit, begin, commit")
		turns(t, s, other, 1, 1, 1, 1)
		for len(s.Events()) < len(program(t, c.own))+3 {
			turns(t, s, own, 1)
		}
		for range c.marked {
			turns(t, s, own, 1)
		}
		same(t, "how many marks", len(s.Marks()), c.marked+1)
		turns(t, s, own, 1)
		at := len(program(t, c.own)) + 1
		same(t, "given up", look(s, at+2), fmt.Sprintf("%s [] [] [] [0 -1 -1] 0 [{1 %d 4  0}]", c.want, at))
		ran(t, s, own)
		same(t, "the next transaction", told(s, at+3), fmt.Sprintf("[{1 %d 1  0} {1 %d 1  0}]", at+1, at+2))
		ran(t, s, other)
		same(t, "the other one", told(s, at+5), "[{0 2 1  1}]")
	}
}

// P6: a mark with a stamp stands in the way, too, also of one that began at that stamp.
func TestConflictWithStampedMark(t *testing.T) {
	s := made(t, 2, 1, 9)
	a := joined(t, s, "begin, put 0 a, commit")
	b := joined(t, s, "begin, put 0 b, commit")
	turns(t, s, a, 1, 1, 1, 1, 1)
	turns(t, s, b, 1, 1, 1, 1, -1)
	same(t, "the second one", look(s, 2), "[{0 0 1}] [] [0 -1] 1 [{1 0 1  1} {1 1 1  0} {1 2 4  0}]")
}

// P6: a version above the beginning, of the first key and of the last.
func TestConflictWithVersion(t *testing.T) {
	for _, c := range []struct {
		key, marked int
		what        string
	}{{0, 0, "put %d o"}, {1, 1, "put %d o"}, {2, 2, "put %d o"}, {1, 1, "delete %d"}} {
		s := made(t, 3, 4, 9)
		own := joined(t, s, "begin, put 2 x, delete 0, put 1 x, commit, begin, get 0, get 1, get 2, commit")
		bystander := joined(t, s, "begin, put 3 m, commit")
		other := joined(t, s, "begin, "+fmt.Sprintf(c.what, c.key)+", commit")
		turns(t, s, own, 1, 1, 1, 1, 1)
		turns(t, s, bystander, 1, 1, 1, 1)
		ran(t, s, other)
		for range c.marked {
			turns(t, s, own, 1)
		}
		same(t, "how many marks", len(s.Marks()), c.marked+1)
		turns(t, s, own, 1)
		same(t, "given up", fmt.Sprint(s.Marks(), s.Sites(), s.Clock(), told(s, 9)), "[{3 1 0}] [-1 0 -1] 1[{0 4 4  0}]")
		for key := range 3 {
			n := 0
			if key == c.key {
				n = 1
			}
			same(t, "how many versions", len(versions(s, key)), n)
		}
		ran(t, s, own)
		same(t, "the beginning of the next one", s.Events()[10], "{0 5 1  1}")
		same(t, "how many events", len(s.Events()), 15)
	}
}

// P6: a version at the beginning, or below it, is in nobody's way.
func TestNoConflictWithOlderVersion(t *testing.T) {
	for began, want := range map[int]int{4: 4, 5: 1, 6: 1} {
		s := made(t, 1, 1, 9)
		s.chains[0].join(3, content{value: "c"})
		s.chains[0].join(5, content{value: "e"})
		s.clock = began
		c := joined(t, s, "begin, put 0 x, commit")
		turns(t, s, c, 1, 1, 1)
		s.clock = 6
		ran(t, s, c)
		same(t, "the outcome", s.Events()[2].Outcome, want)
	}
}

// P6: a transaction that has only read, or aborts, is in nobody's way, whatever others commit.
func TestNoConflictWithoutWrites(t *testing.T) {
	s := made(t, 3, 2, 9)
	reads := joined(t, s, "begin, get 0, commit")
	aborts := joined(t, s, "begin, put 0 x, abort")
	turns(t, s, reads, 1, 1)
	turns(t, s, aborts, 1, 1, 1)
	writes := joined(t, s, "begin, put 0 w, put 1 w, commit")
	ran(t, s, writes)
	ran(t, s, reads)
	ran(t, s, aborts)
	same(t, "events", told(s, 3), "[{2 0 1  0} {2 1 1  0} {2 2 1  0} {2 3 1  1} {0 1 3  0} {0 2 1  0} {1 2 1  0}]")
}

// P6, P2: with a limit of 0 nothing that has written is committed.
func TestLimitOfZero(t *testing.T) {
	s := made(t, 1, 3, 0)
	c := joined(t, s, "begin, put 2 x, delete 0, commit, begin, get 2, get 0, commit, begin, put 1 y, commit")
	turns(t, s, c, 1, 1, 1, 1)
	looks(t, s, c, 3,
		"[{0 0 0}] [] [] [] [0] 0 []",
		"[{0 0 0} {2 0 0}] [] [] [] [0] 0 []",
		"[] [] [] [] [-1] 0 [{0 3 6  0}]",
	)
	ran(t, s, c)
	same(t, "the next ones", look(s, 4), "[] [] [] [] [-1] 0 [{0 4 1  0} {0 5 3  0} {0 6 3  0} {0 7 1  0} {0 8 1  0} {0 9 1  0} {0 10 6  0}]")
}

// P6, P2: the last stamp is the limit; behind it the clock stays, and others' marks do.
func TestLimit(t *testing.T) {
	s := made(t, 2, 3, 2)
	a := joined(t, s, "begin, put 0 a, commit, begin, put 0 b, commit, begin, put 0 c, put 2 c, commit, begin, get 0, get 2, commit")
	b := joined(t, s, "begin, put 1 m, commit")
	turns(t, s, b, 1, 1, 1, 1)
	for range 14 {
		turns(t, s, a, 1)
	}
	same(t, "the last stamp", look(s, 7), "[{1 1 0}] [{2 false b} {1 false a}] [] [] [0 -1] 2 [{0 5 1  2}]")
	turns(t, s, a, 1, 1, 1, 1)
	looks(t, s, a, 11,
		"[{0 0 0} {1 1 0}] [{2 false b} {1 false a}] [] [] [0 2] 2 []",
		"[{0 0 0} {1 1 0} {2 0 0}] [{2 false b} {1 false a}] [] [] [0 2] 2 []",
		"[{1 1 0}] [{2 false b} {1 false a}] [] [] [0 -1] 2 [{0 9 6  0}]",
	)
	ran(t, s, a)
	same(t, "the next one", told(s, 12), "[{0 10 1  2} {0 11 2 b 0} {0 12 3  0} {0 13 1  0}]")
	turns(t, s, b, 1, -1)
	same(t, "another one", look(s, 16), "[] [{2 false b} {1 false a}] [] [] [-1 -1] 2 [{1 2 6  0}]")
}

// P6: a conflict is told ahead of the limit, which is looked at behind the last mark.
func TestConflictAheadOfLimit(t *testing.T) {
	s := made(t, 2, 2, 1)
	a := joined(t, s, "begin, put 0 a, put 1 a, commit")
	b := joined(t, s, "begin, put 1 b, commit")
	turns(t, s, a, 1, 1, 1, 1, 1)
	ran(t, s, b)
	turns(t, s, a, 1, -1)
	same(t, "what is there", look(s, 5), "[] [] [{1 false b}] [-1 -1] 1 [{1 2 1  1} {0 3 4  0}]")
}

// P6: the limit is that of the small step that takes the stamp, not of the commit's first one.
func TestLimitIsLookedAtLate(t *testing.T) {
	s := made(t, 2, 2, 1)
	a := joined(t, s, "begin, put 0 a, commit")
	b := joined(t, s, "begin, put 1 b, commit")
	turns(t, s, a, 1, 1, 1, 1)
	ran(t, s, b)
	turns(t, s, a, 1, -1)
	same(t, "what is there", look(s, 4), "[] [] [{1 false b}] [-1 -1] 1 [{1 2 1  1} {0 2 6  0}]")
}

// P5, P6: a get waits for a mark with a stamp, and goes on behind the version; with the mark of another key it does not wait.
func TestGetWaitsForCommit(t *testing.T) {
	s := made(t, 3, 3, 9)
	a := joined(t, s, "begin, put 1 a, delete 0, commit")
	early := joined(t, s, "begin, get 0, get 1")
	late := joined(t, s, "begin, get 2, get 1, get 0")
	ran(t, s, joined(t, s, "begin, put 0 old, commit"))
	turns(t, s, early, 1, 1)
	turns(t, s, a, 1, 1, 1, 1, 1, 1)
	turns(t, s, early, 1)
	turns(t, s, a, 1)
	turns(t, s, late, 1, 1, 1)
	before := state(s)
	turns(t, s, late, 0, 0)
	same(t, "state of what is held up", state(s), before)
	turns(t, s, early, 1, -1)
	turns(t, s, a, 1)
	turns(t, s, late, 0)
	turns(t, s, a, 1)
	turns(t, s, late, 1, 1, -1)
	same(t, "events", told(s, 3), "[{1 0 1  1} {0 0 1  1} {0 1 1  0} {0 2 1  0} {1 1 2 old 0} {2 0 1  2} {2 1 3  0} {1 2 3  0} {2 2 2 a 0} {2 3 3  0}]")
	ran(t, s, a)
}

// P5: what a transaction has written itself it reads, though another one's stamped mark is on the key; its commit then fails.
func TestOwnWriteBesideStampedMark(t *testing.T) {
	s := made(t, 2, 1, 9)
	a := joined(t, s, "begin, put 0 a, commit")
	b := joined(t, s, "begin, put 0 b, get 0, commit, begin, get 0")
	turns(t, s, a, 1, 1, 1, 1, 1)
	turns(t, s, b, 1, 1, 1, 1, 1, 1, 1, 0)
	ran(t, s, a)
	ran(t, s, b)
	same(t, "events", told(s, 2), "[{1 0 1  1} {1 1 1  0} {1 2 2 b 0} {1 3 4  0} {1 4 1  1} {0 2 1  1} {1 5 2 a 0}]")
}

// P6: behind each outcome the client's next transaction has none of the writes of the one ahead of it.
func TestNextTransaction(t *testing.T) {
	for outcome, limit := range map[int]int{1: 9, 4: 9, 6: 1} {
		s := made(t, 2, 3, limit)
		ran(t, s, joined(t, s, "begin, put 2 base, commit"))
		c := joined(t, s, "begin, put 0 x, delete 2, commit, begin, get 0, get 2, put 1 n, commit, begin, commit")
		turns(t, s, c, 1, 1, 1, 1)
		if outcome == 4 {
			ran(t, s, joined(t, s, "begin, put 2 newer, commit"))
		}
		for s.Events()[len(s.Events())-1].Step != 3 {
			turns(t, s, c, 1)
		}
		from := len(s.Events())
		ran(t, s, c)
		same(t, fmt.Sprint("behind outcome ", outcome), fmt.Sprint(told(s, from-1), versions(s, 0), versions(s, 1), s.Marks()), map[int]string{
			1: "[{1 3 1  2} {1 4 1  2} {1 5 2 x 0} {1 6 3  0} {1 7 1  0} {1 8 1  3} {1 9 1  3} {1 10 1  0}][{2 false x}] [{3 false n}] []",
			4: "[{1 3 4  0} {1 4 1  2} {1 5 3  0} {1 6 2 newer 0} {1 7 1  0} {1 8 1  3} {1 9 1  3} {1 10 1  0}][] [{3 false n}] []",
			6: "[{1 3 6  0} {1 4 1  1} {1 5 3  0} {1 6 2 base 0} {1 7 1  0} {1 8 6  0} {1 9 1  1} {1 10 1  0}][] [] []",
		}[outcome])
	}
}

// P5: a transaction that was left out writes nothing, and its commit is one small step.
func TestLeftOutIsNotCommitted(t *testing.T) {
	s := made(t, 1, 1, 9)
	a := joined(t, s, "begin, abort")
	b := joined(t, s, "begin, put 0 x, commit, begin, commit")
	turns(t, s, a, 1, 1)
	turns(t, s, b, 1, 1, 1)
	ran(t, s, a)
	ran(t, s, b)
	same(t, "what is there", look(s, 1), "[] [] [-1] 0 [{1 0 5  0} {1 1 7  0} {1 2 7  0} {0 1 1  0} {1 3 1  0} {1 4 1  0}]")
}

// P6: the site stays taken up to the last small step, and the next one that begins gets it then.
func TestSiteOfCommit(t *testing.T) {
	s := made(t, 1, 1, 9)
	a := joined(t, s, "begin, put 0 a, commit")
	b := joined(t, s, "begin, abort, begin, abort, begin, abort, begin, abort, begin")
	turns(t, s, a, 1, 1, 1)
	for range 4 {
		turns(t, s, b, 1, 1)
		turns(t, s, a, 1)
	}
	turns(t, s, b, 1, 1)
	same(t, "sites and the last event", fmt.Sprint(s.Sites(), told(s, 11)), "[1][{1 8 1  1}]")
}

// P8: Stop in the middle of a commit, behind each of its small steps: what is there stays and is told.
func TestStopWithinCommit(t *testing.T) {
	for n := range 9 {
		waitFor(t, 0)
		s := made(t, 2, 2, 9)
		c := joined(t, s, "begin, put 1 x, delete 0, commit")
		other := joined(t, s, "begin, get 0")
		turns(t, s, other, 1)
		turns(t, s, c, 1, 1, 1, 1)
		turns(t, s, c, slices.Repeat([]int{1}, min(n, 6))...)
		turns(t, s, c, slices.Repeat([]int{-1}, n-min(n, 6))...)
		before := state(s)
		s.Stop()
		waitFor(t, 0)
		same(t, "state behind Stop", state(s), before)
		_, err := s.Pick(c)
		refused(t, err, ErrStopped, "Pick", c)
		same(t, "state behind a Pick that is refused", state(s), before)
	}
}

// P6: the document's example of two clients that began at one stamp and write the same key.
func TestExampleOfTwo(t *testing.T) {
	for first, want := range map[int]string{1: "[{0 2 1  1} {1 2 4  0}]", 4: "[{0 2 1  1} {1 2 4  0}]"} {
		s := made(t, 2, 2, 9)
		a := joined(t, s, "begin, put 1 a, commit")
		b := joined(t, s, "begin, put 1 b, commit")
		turns(t, s, a, 1, 1, 1)
		turns(t, s, b, 1, 1, 1)
		turns(t, s, a, slices.Repeat([]int{1}, first)...)
		ran(t, s, b)
		ran(t, s, a)
		list := s.Events()[4:]
		slices.SortFunc(list, func(x, y Event) int { return x.Client - y.Client })
		same(t, "outcomes", list, want)
		same(t, "the chain", versions(s, 1), "[{1 false a}]")
	}
}
