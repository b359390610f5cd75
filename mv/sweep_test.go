package mv

import (
	"fmt"
	"slices"
	"strings"
	"testing"
)

// sweeps takes small steps of the sweeper, and holds what is answered against what must be.
func sweeps(t *testing.T, s *Store, want ...bool) {
	t.Helper()
	for i, w := range want {
		if over, err := s.Sweep(); over != w || err != nil {
			t.Fatalf("small step %d of the sweeper: %v, %v, want %v; %s", i, over, err, w, state(s))
		}
	}
}

// pass takes small steps of the sweeper to the end of a pass, and answers how many.
func pass(t *testing.T, s *Store) int {
	t.Helper()
	for n := 1; n < 100; n++ {
		over, err := s.Sweep()
		if err != nil {
			t.Fatalf("Sweep: %v", err)
		}
		if over {
			return n
		}
	}
	t.Fatal("a pass has no end")
	return 0
}

// lay makes a chain by hand, as a text tells it, the newest first: "4 d, 3, 1 a"; what has no value is gone.
func lay(t *testing.T, s *Store, key int, text string) {
	t.Helper()
	s.chains[key] = chain[content]{}
	if text == "" {
		return
	}
	list := strings.Split(text, ", ")
	slices.Reverse(list)
	for _, part := range list {
		stamp, what := 0, content{gone: true}
		if n, err := fmt.Sscan(part, &stamp, &what.value); n == 2 && err == nil {
			what.gone = false
		}
		s.chains[key].join(stamp, what)
	}
}

// chained tells a chain as lay reads it.
func chained(s *Store, key int) string {
	var list []string
	for v := range s.Chain(key) {
		part := fmt.Sprint(v.Stamp)
		if !v.Gone {
			part += " " + v.Value
		}
		list = append(list, part)
	}
	return strings.Join(list, ", ")
}

// P7: a pass has a small step, and one for each site and each key; the last one answers true. So has each pass behind it.
func TestPassLength(t *testing.T) {
	for _, sites := range []int{1, 2, 3, 8} {
		for _, keys := range []int{1, 2, 19, 20} {
			s := made(t, sites, keys, 9)
			joined(t, s, "begin, put 0 x")
			before := state(s)
			for range 3 {
				sweeps(t, s, slices.Repeat([]bool{false}, sites+keys)...)
				sweeps(t, s, true)
			}
			same(t, "state behind passes over nothing", state(s), before)
			s.Stop()
		}
	}
}

// P7: what each small step leaves: the keys go in their order, and nothing but their chains changes.
func TestPassStepByStep(t *testing.T) {
	s := made(t, 2, 4, 9)
	turns(t, s, joined(t, s, "begin, put 3 own"), 1, 1, 1)
	turns(t, s, joined(t, s, "begin"), 1)
	s.clock, s.sites[0] = 6, 3
	s.marks[2] = Mark{2, 0, 0}
	lay(t, s, 0, "5 e, 3 c, 2 b, 1 a")
	lay(t, s, 1, "6, 4 d, 2, 1 a")
	lay(t, s, 3, "2 y, 1 x")
	rest := " sites [3 -2] marks [{2 0 0}] clock 6 events [{0 0 1  0} {0 1 1  0}]"
	for range 2 {
		for i, want := range []string{
			"5 e, 3 c, 2 b, 1 a; 6, 4 d, 2, 1 a; ; 2 y, 1 x;",
			"5 e, 3 c, 2 b, 1 a; 6, 4 d, 2, 1 a; ; 2 y, 1 x;",
			"5 e, 3 c, 2 b, 1 a; 6, 4 d, 2, 1 a; ; 2 y, 1 x;",
			"5 e, 3 c; 6, 4 d, 2, 1 a; ; 2 y, 1 x;",
			"5 e, 3 c; 6, 4 d; ; 2 y, 1 x;",
			"5 e, 3 c; 6, 4 d; ; 2 y, 1 x;",
			"5 e, 3 c; 6, 4 d; ; 2 y;",
		} {
			sweeps(t, s, i == 6)
			got := ""
			for key := range 4 {
				got += chained(s, key) + "; "
			}
			got = strings.TrimSuffix(got, " ")
			got += fmt.Sprint(" sites ", s.Sites(), " marks ", s.Marks(), " clock ", s.Clock(), " events ", s.Events())
			same(t, fmt.Sprint("behind small step ", i), got, want+rest)
		}
		lay(t, s, 0, "5 e, 3 c, 2 b, 1 a")
		lay(t, s, 1, "6, 4 d, 2, 1 a")
		lay(t, s, 3, "2 y, 1 x")
	}
}

// P7: the document's example.
func TestSweepExample(t *testing.T) {
	s := made(t, 3, 2, 9)
	a := joined(t, s, "begin, put 0 a, commit, begin, put 0 b, commit, begin, put 0 c, commit, begin, put 0 d, commit, begin, delete 1, commit")
	reader := joined(t, s, "begin, get 0, commit")
	for range 14 {
		turns(t, s, a, 1)
	}
	turns(t, s, reader, 1, 1)
	for range 14 {
		turns(t, s, a, 1)
	}
	same(t, "ahead of the pass", fmt.Sprint(s.Sites(), s.Clock(), "; ", chained(s, 0)), "[2 -1 -1] 4; 4 d, 3 c, 2 b, 1 a")
	pass(t, s)
	same(t, "with a site that holds 2", chained(s, 0), "4 d, 3 c, 2 b")
	ran(t, s, reader)
	same(t, "what was read", told(s, 13), "[{1 1 2 b 0} {1 2 1  0}]")
	pass(t, s)
	same(t, "with none", chained(s, 0), "4 d")
	ran(t, s, a)
	same(t, "what is gone", chained(s, 1), "5")
	pass(t, s)
	same(t, "behind another pass", chained(s, 0)+"; "+chained(s, 1), "4 d; ")
}

// P7: what a pass leaves, by where w lies: at versions, between them, above and below all; be it the clock's or a site's.
func TestWhatStays(t *testing.T) {
	for _, c := range []struct {
		chain string
		left  []string // by w, from 0 on
	}{
		{"", []string{"", "", ""}},
		{"2 b", []string{"2 b", "2 b", "2 b", "2 b"}},
		{"2", []string{"2", "2", "", ""}},
		{"4 d, 3 c, 2 b, 1 a", []string{"4 d, 3 c, 2 b, 1 a", "4 d, 3 c, 2 b, 1 a", "4 d, 3 c, 2 b", "4 d, 3 c", "4 d", "4 d"}},
		{"7, 5 e, 4, 2 b", []string{"7, 5 e, 4, 2 b", "7, 5 e, 4, 2 b", "7, 5 e, 4, 2 b", "7, 5 e, 4, 2 b", "7, 5 e", "7, 5 e", "7, 5 e", "", ""}},
		{"3 c, 1", []string{"3 c, 1", "3 c", "3 c", "3 c", "3 c"}},
		{"3, 2, 1", []string{"3, 2, 1", "3, 2", "3", "", ""}},
		{"9 i, 8", []string{"9 i, 8", "9 i, 8", "9 i, 8", "9 i, 8", "9 i, 8", "9 i, 8", "9 i, 8", "9 i, 8", "9 i", "9 i"}},
	} {
		for w, want := range c.left {
			for _, how := range []string{"clock", "site"} {
				s := made(t, 2, 3, 9)
				lay(t, s, 1, c.chain)
				if how == "clock" {
					s.clock = w
				} else {
					s.clock, s.sites[1] = 9, w
				}
				for range 2 {
					pass(t, s)
					same(t, fmt.Sprint("of ", c.chain, " with w ", w, " by the ", how), chained(s, 1), want)
				}
				same(t, "other chains", chained(s, 0)+chained(s, 2), "")
				s.Stop()
			}
		}
	}
}

// P7: a version of an empty value is not gone.
func TestEmptyValueStays(t *testing.T) {
	s := made(t, 1, 1, 9)
	c := joined(t, s, "begin, put 0 x, commit, begin, put 0, commit, begin, get 0, delete 0, commit, begin, put 0, get 0, commit")
	for range 14 {
		turns(t, s, c, 1)
	}
	pass(t, s)
	same(t, "the chain", versions(s, 0), "[{2 false }]")
	for range 8 {
		turns(t, s, c, 1)
	}
	same(t, "read, and deleted", fmt.Sprint(told(s, 7), versions(s, 0)), "[{0 7 2  0} {0 8 1  0} {0 9 1  3}][{3 true } {2 false }]")
	pass(t, s)
	same(t, "nothing is left", versions(s, 0), "[]")
	ran(t, s, c)
	pass(t, s)
	same(t, "a version behind it", versions(s, 0), "[{4 false }]")
}

// P7: w is the least of the clock and the numbers that sites hold; free and taken are no numbers.
func TestLowestNumber(t *testing.T) {
	for _, c := range []struct {
		sites []int
		clock int
		want  int
	}{
		{[]int{-1}, 9, 9}, {[]int{-2}, 9, 9}, {[]int{-2, -1, -2}, 4, 4},
		{[]int{9}, 9, 9}, {[]int{8}, 9, 8}, {[]int{1}, 9, 1}, {[]int{0}, 9, 0},
		{[]int{5, 3, 7}, 9, 3}, {[]int{3, 5, 7}, 9, 3}, {[]int{7, 5, 3}, 9, 3}, {[]int{3, 3}, 3, 3},
		{[]int{-2, 6, -1, -2}, 8, 6}, {[]int{-1, -1, -1, -1, -1, -1, -1, 2}, 9, 2}, {[]int{2, -2, -2, -2, -2, -2, -2, -2}, 9, 2},
		{[]int{-1}, 0, 0}, {[]int{-2, 0}, 0, 0},
	} {
		s := made(t, len(c.sites), 1, 9)
		lay(t, s, 0, "9 v, 8 v, 7 v, 6 v, 5 v, 4 v, 3 v, 2 v, 1 v, 0 v")
		s.clock = c.clock
		copy(s.sites, c.sites)
		pass(t, s)
		list := versions(s, 0)
		same(t, fmt.Sprint("the oldest and how many, with ", c.sites, " and ", c.clock), fmt.Sprint(list[len(list)-1].Stamp, len(list)), fmt.Sprint(c.want, 10-c.want))
		same(t, "sites and clock", fmt.Sprint(s.Sites(), s.Clock()), fmt.Sprint(c.sites, c.clock))
		s.Stop()
	}
}

// P7: each thing is looked at in its own small step: the clock in the first one, each site and each key in theirs.
func TestWhenItIsLookedAt(t *testing.T) {
	full := "5 e, 4 d, 3 c, 2 b, 1 a"
	for _, c := range []struct {
		at         int // how many small steps are taken ahead of the change
		what       func(s *Store)
		first, two string // the chains of the keys behind the pass
	}{
		{0, func(s *Store) { s.clock = 5 }, "5 e", "5 e"},
		{1, func(s *Store) { s.clock = 5 }, "5 e, 4 d", "5 e, 4 d"},
		{1, func(s *Store) { s.sites[0] = 2 }, "5 e, 4 d, 3 c, 2 b", "5 e, 4 d, 3 c, 2 b"},
		{2, func(s *Store) { s.sites[0] = 2 }, "5 e, 4 d", "5 e, 4 d"},
		{1, func(s *Store) { s.sites[1] = 2 }, "5 e, 4 d, 3 c, 2 b", "5 e, 4 d, 3 c, 2 b"},
		{2, func(s *Store) { s.sites[1] = 2 }, "5 e, 4 d, 3 c, 2 b", "5 e, 4 d, 3 c, 2 b"},
		{3, func(s *Store) { s.sites[1] = 2 }, "5 e, 4 d", "5 e, 4 d"},
		{4, func(s *Store) { s.sites[1] = 2 }, "5 e, 4 d", "5 e, 4 d"},
		{3, func(s *Store) { s.chains[0].join(6, content{}); s.clock = 6 }, "6 , 5 e, 4 d", "5 e, 4 d"},
		{4, func(s *Store) { s.chains[0].join(6, content{}); s.clock = 6 }, "6 , 5 e, 4 d", "5 e, 4 d"},
		{4, func(s *Store) { lay(t, s, 0, full); lay(t, s, 1, "6, 3 c, 2 b") }, full, "6, 3 c"},
	} {
		s := made(t, 2, 2, 9)
		lay(t, s, 0, full)
		lay(t, s, 1, full)
		s.clock = 4
		sweeps(t, s, slices.Repeat([]bool{false}, c.at)...)
		c.what(s)
		same(t, "the small steps that are left", pass(t, s), 5-c.at)
		same(t, fmt.Sprint("with a change behind ", c.at), chained(s, 0)+"; "+chained(s, 1), c.first+"; "+c.two)
		s.Stop()
	}
}

// P7: a site that comes free ahead of its small step is not heeded, one that comes free behind it is.
func TestSiteComesFreeWithinPass(t *testing.T) {
	for at, want := range []string{"4 d", "4 d", "4 d, 3 c, 2 b", "4 d, 3 c, 2 b", "4 d, 3 c, 2 b"} {
		for _, end := range []string{"commit", "abort"} {
			s := made(t, 2, 1, 9)
			lay(t, s, 0, "4 d, 3 c, 2 b, 1 a")
			s.clock = 2
			reader := joined(t, s, "begin, "+end)
			turns(t, s, reader, 1, 1)
			s.clock = 4
			sweeps(t, s, slices.Repeat([]bool{false}, min(at, 3))...)
			if at == 4 {
				sweeps(t, s, true)
			}
			turns(t, s, reader, 1, -1)
			if at < 4 {
				pass(t, s)
			}
			same(t, fmt.Sprint("free behind small step ", at), chained(s, 0), want)
			pass(t, s)
			same(t, "behind the next pass", chained(s, 0), "4 d")
			s.Stop()
		}
	}
}

// P7, P5: a site is taken, and gets its number, at every place of a pass; in between others commit. What it reads is there.
func TestSiteGetsNumberWithinPass(t *testing.T) {
	for takes := range 7 {
		for holds := takes; holds < 7; holds++ {
			for commits := range 7 {
				s := made(t, 3, 2, 99)
				writer := joined(t, s, "begin, put 0 a, put 1 a, commit, begin, put 0 b, delete 1, commit, begin, put 0 c, put 1 c, commit")
				reader := joined(t, s, "begin, get 0, get 1, commit")
				for range 20 {
					turns(t, s, writer, 1)
				}
				for at := range 7 {
					if at == takes {
						turns(t, s, reader, 1)
						same(t, "taken", s.Sites(), "[-2 -1 -1]")
					}
					if at == commits {
						ran(t, s, writer)
					}
					if at == holds {
						turns(t, s, reader, 1)
					}
					if at < 6 {
						sweeps(t, s, at == 5)
					}
				}
				pass(t, s)
				turns(t, s, reader, 1, 1, 1, -1)
				got, want := s.Events()[len(s.Events())-3:], "[{1 1 2 b 0} {1 2 3  0} {1 3 1  0}]"
				if commits <= holds {
					want = "[{1 1 2 c 0} {1 2 2 c 0} {1 3 1  0}]"
				}
				same(t, fmt.Sprint("taken at ", takes, ", holds at ", holds, ", another commit at ", commits), got, want)
				pass(t, s)
				same(t, "nobody reads", chained(s, 0)+"; "+chained(s, 1), "3 c; 3 c")
				s.Stop()
			}
		}
	}
}

// P6, P7: a commit puts its versions there within a pass. Those that it has stamped but not laid yet are neither lost nor do they let older ones go too early.
func TestCommitWithinPass(t *testing.T) {
	for _, c := range []struct {
		ahead, at, steps int // small steps of the commit ahead of the pass; small steps of the pass; and then of the commit
		want             string
	}{
		{0, 0, 6, "2 y; "},
		{0, 1, 6, "2 y, 1 x; 2, 1 x"}, // the clock was looked at ahead of the stamp
		{2, 1, 4, "2 y, 1 x; 2, 1 x"}, // marked
		{3, 0, 0, "1 x; 1 x"},         // stamped, and nothing laid
		{3, 1, 3, "2 y; "},            // .. then all laid, and free ahead of the site's small step
		{3, 1, 2, "2 y, 1 x; 2, 1 x"}, // .. all laid, and not free
		{3, 2, 3, "2 y, 1 x; 2, 1 x"}, // .. free behind the site's small step
		{4, 1, 1, "2 y, 1 x; 2, 1 x"}, // one laid ahead of the pass, one within it
		{4, 3, 1, "2 y, 1 x; 2, 1 x"}, // .. between the two keys' small steps
		{4, 4, 1, "2 y, 1 x; 2, 1 x"}, // .. behind them
		{4, 1, 2, "2 y; "},            // .. and free ahead of the site's small step
		{5, 0, 1, "2 y; "},            // free ahead of the pass
		{5, 0, 0, "2 y, 1 x; 2, 1 x"}, // not free
		{3, 3, 1, "2 y, 1 x; 1 x"},    // half laid
		{0, 2, 0, "1 x; 1 x"},         // not begun to
	} {
		s := made(t, 1, 2, 9)
		w := joined(t, s, "begin, put 0 x, put 1 x, commit, begin, delete 1, put 0 y, commit, begin, get 0, get 1")
		for range 14 {
			turns(t, s, w, 1)
		}
		one := func(n int) { t.Helper(); turns(t, s, w, slices.Repeat([]int{1}, n)...) }
		one(c.ahead)
		sweeps(t, s, slices.Repeat([]bool{false}, min(c.at, 3))...)
		if c.at == 4 {
			sweeps(t, s, true)
		}
		one(c.steps)
		if c.at < 4 {
			pass(t, s)
		}
		same(t, fmt.Sprint(c), chained(s, 0)+"; "+chained(s, 1), c.want)
		ran(t, s, w)
		same(t, "what is read behind it", told(s, 7), "[{0 7 1  2} {0 8 1  2} {0 9 2 y 0} {0 10 3  0}]")
		pass(t, s)
		same(t, "behind another pass", chained(s, 0)+"; "+chained(s, 1), "2 y; ")
		s.Stop()
	}
}

// P7: another pass begins with the clock as it is then, and knows nothing of the one ahead of it.
func TestNextPass(t *testing.T) {
	s := made(t, 2, 1, 9)
	lay(t, s, 0, "8 h, 6 f, 5 e, 4 d, 3 c, 2 b, 1 a")
	for _, c := range []struct {
		clock int
		sites []int
		want  string
	}{
		{4, []int{-1, 2}, "8 h, 6 f, 5 e, 4 d, 3 c, 2 b"},
		{4, []int{-1, -1}, "8 h, 6 f, 5 e, 4 d"},
		{6, []int{-2, 3}, "8 h, 6 f, 5 e, 4 d"},
		{7, []int{5, -1}, "8 h, 6 f, 5 e"},
		{7, []int{7, 7}, "8 h, 6 f"},
		{8, []int{-2, -2}, "8 h"},
		{9, []int{-1, -1}, "8 h"},
	} {
		s.clock = c.clock
		copy(s.sites, c.sites)
		sweeps(t, s, false, false, false, true)
		same(t, fmt.Sprint("behind the pass with ", c.sites, " and ", c.clock), chained(s, 0), c.want)
	}
}

// P5, P6, P7: a get that is held up by a stamped mark finds the version behind it, and the older one is still there for whoever began ahead of it.
func TestSweepBesideStampedMark(t *testing.T) {
	s := made(t, 4, 1, 9)
	ran(t, s, joined(t, s, "begin, put 0 old, commit"))
	early := joined(t, s, "begin, get 0, commit")
	turns(t, s, early, 1, 1)
	writer := joined(t, s, "begin, put 0 new, commit")
	turns(t, s, writer, 1, 1, 1, 1, 1)
	late := joined(t, s, "begin, get 0, commit")
	turns(t, s, late, 1, 1, 0)
	pass(t, s)
	same(t, "the mark, and the chain", fmt.Sprint(s.Marks(), chained(s, 0)), "[{0 2 2}]1 old")
	turns(t, s, late, 0)
	turns(t, s, writer, 1)
	pass(t, s)
	same(t, "both are read yet", chained(s, 0), "2 new, 1 old")
	turns(t, s, late, 1)
	turns(t, s, early, 1)
	same(t, "what is read", told(s, 7), "[{3 1 2 new 0} {1 1 2 old 0}]")
	ran(t, s, early)
	pass(t, s)
	same(t, "the writer's site holds 1 yet", chained(s, 0), "2 new, 1 old")
	ran(t, s, writer)
	pass(t, s)
	same(t, "late holds 2", chained(s, 0), "2 new")
}

// P6, P7: what stands in a commit's way is not swept from it, be it gone.
func TestConflictBehindSweep(t *testing.T) {
	for _, write := range []string{"put 0 x", "delete 0"} {
		s := made(t, 3, 1, 9)
		ran(t, s, joined(t, s, "begin, put 0 a, commit"))
		slow := joined(t, s, "begin, "+write+", commit, begin, "+write+", commit")
		turns(t, s, slow, 1, 1, 1)
		ran(t, s, joined(t, s, "begin, delete 0, commit"))
		pass(t, s)
		same(t, "what is gone stays", chained(s, 0), "2, 1 a")
		turns(t, s, slow, 1)
		same(t, "the conflict", told(s, 8), "[{1 2 4  0}]")
		pass(t, s)
		same(t, "nobody needs it", chained(s, 0), "")
		ran(t, s, slow)
		same(t, "the next one", told(s, 9), "[{1 3 1  2} {1 4 1  0} {1 5 1  3}]")
	}
}

// P7: a transaction that is left out has no site, and keeps nothing; one that is open at its program's end keeps what it may read.
func TestWhoKeepsVersions(t *testing.T) {
	s := made(t, 1, 1, 9)
	ran(t, s, joined(t, s, "begin, put 0 a, commit"))
	open := joined(t, s, "begin, get 0")
	ran(t, s, open)
	ran(t, s, joined(t, s, "begin, get 0"))
	s.chains[0].join(2, content{value: "b"})
	s.clock = 2
	pass(t, s)
	same(t, "with an open one", chained(s, 0), "2 b, 1 a")
	turns(t, s, open, -1)
	pass(t, s)
	same(t, "with an open one, yet", chained(s, 0), "2 b, 1 a")
}

// P1, P8: Sweep behind Stop, and Stop behind each small step of a pass: what is there stays, and is told.
func TestStopWithinPass(t *testing.T) {
	for at := range 8 {
		waitFor(t, 0)
		s := made(t, 2, 3, 9)
		waitFor(t, 1)
		for key := range 3 {
			lay(t, s, key, "3, 2 b, 1 a")
		}
		s.clock, s.sites[1] = 3, 2
		sweeps(t, s, slices.Repeat([]bool{false}, min(at, 5))...)
		if at > 5 {
			sweeps(t, s, true)
		}
		sweeps(t, s, slices.Repeat([]bool{false}, max(at-6, 0))...)
		before := state(s)
		s.Stop()
		waitFor(t, 0)
		for range 7 {
			over, err := s.Sweep()
			refused(t, err, ErrStopped, "Sweep", 0)
			same(t, "answer beside ErrStopped", over, false)
			same(t, "state behind Stop", state(s), before)
		}
		swept := min(max(at-3, 0), 3)
		for key := range 3 {
			want := "3, 2 b, 1 a"
			if key < swept {
				want = "3, 2 b"
			}
			same(t, fmt.Sprint("stopped behind ", at, ": the chain of ", key), chained(s, key), want)
		}
	}
}

// P7: two stores, each with its own sweeper, in the middle of its own pass.
func TestTwoSweepers(t *testing.T) {
	waitFor(t, 0)
	one, two := made(t, 1, 2, 9), made(t, 3, 1, 9)
	waitFor(t, 2)
	lay(t, one, 0, "3 c, 2 b, 1 a")
	lay(t, one, 1, "3, 2 b")
	lay(t, two, 0, "3 c, 2 b, 1 a")
	one.clock, two.clock = 3, 2
	for i := range 20 {
		sweeps(t, one, i%4 == 3)
		if i == 0 {
			one.clock = 9
		}
		if i == 2 {
			same(t, "swept, and not swept", chained(one, 0)+"; "+chained(one, 1)+"; "+chained(two, 0), "3 c; 3, 2 b; 3 c, 2 b, 1 a")
		}
		sweeps(t, two, i%5 == 4)
	}
	same(t, "all chains", chained(one, 0)+"; "+chained(one, 1)+"; "+chained(two, 0), "3 c; ; 3 c, 2 b")
	sweeps(t, two, false, false)
	one.Stop()
	waitFor(t, 1)
	two.clock = 3
	sweeps(t, two, false, false, true, false, false, false, false, true)
	same(t, "the other one goes on", chained(two, 0), "3 c")
	two.Stop()
	waitFor(t, 0)
}

// P8: a loop tells of the chain as it was when it began, though the body sweeps; the next loop tells of what is left.
func TestSweepWithinLoop(t *testing.T) {
	for leave := 1; leave <= 5; leave++ {
		s := made(t, 1, 2, 9)
		lay(t, s, 1, "4 d, 3, 2 b, 1 a")
		s.clock = 4
		loop := s.Chain(1)
		got := ""
		n := 0
		for v := range loop {
			got += fmt.Sprint(v)
			pass(t, s)
			same(t, "what is left, told in the body", chained(s, 1), "4 d")
			if n++; n == leave {
				break
			}
		}
		want := []string{"{4 false d}", "{3 true }", "{2 false b}", "{1 false a}"}
		same(t, fmt.Sprint("a loop left behind ", leave), got, strings.Join(want[:min(leave, 4)], ""))
		for range 2 {
			n = 0
			for v := range loop {
				same(t, "the loop that begins behind it", v, "{4 false d}")
				n++
			}
			same(t, "how many are left", n, 1)
		}
		s.chains[1].join(5, content{gone: true})
		s.clock = 5
		for range loop {
			pass(t, s)
		}
		for v := range loop {
			t.Fatal("nothing is left, and told: ", v)
		}
	}
}

// P1, P8: the body panics in the middle of a pass; the pass goes on behind it.
func TestLoopPanicsWithinPass(t *testing.T) {
	s := made(t, 1, 1, 9)
	lay(t, s, 0, "2 b, 1 a")
	s.clock = 2
	func() {
		defer func() { same(t, "the panic", recover(), "body") }()
		for range s.Chain(0) {
			sweeps(t, s, false, false)
			panic("body")
		}
	}()
	sweeps(t, s, true)
	same(t, "the chain", chained(s, 0), "2 b")
}

// P7: versions join behind a pass as they did ahead of it, and a program of many commits keeps no more than one version of a key.
func TestSweepAfterEachCommit(t *testing.T) {
	s := made(t, 1, 2, 1000)
	text := "begin, put 0 v, delete 1, commit"
	c := joined(t, s, text+strings.Repeat(", "+text, 49))
	for n := 1; n <= 50; n++ {
		turns(t, s, c, slices.Repeat([]int{1}, 10)...)
		same(t, "newest first", fmt.Sprint(versions(s, 0)[0].Stamp, versions(s, 1)[0]), fmt.Sprint(n, " {", n, " true }"))
		if n%3 == 0 {
			pass(t, s)
			same(t, "what is left", chained(s, 0)+"; "+chained(s, 1), fmt.Sprint(n, " v; "))
		}
	}
	turns(t, s, c, -1)
	pass(t, s)
	same(t, "what is left at the end", chained(s, 0)+"; "+chained(s, 1), "50 v; ")
}

// P8: a chain that has been swept is told newest first, left early or gone through whole, and joined by what is new.
func TestChainOfWhatIsSwept(t *testing.T) {
	s := made(t, 1, 1, 9)
	lay(t, s, 0, "5 e, 4, 3 c, 2 b, 1 a")
	s.clock, s.sites[0] = 5, 3
	pass(t, s)
	want := []string{"{5 false e}", "{4 true }", "{3 false c}"}
	for leave := 1; leave <= 4; leave++ {
		n := 0
		for v := range s.Chain(0) {
			same(t, fmt.Sprint("version ", n), v, want[n])
			if n++; n == leave {
				break
			}
		}
		same(t, fmt.Sprint("a loop left behind ", leave), n, min(leave, 3))
	}
	s.chains[0].join(6, content{value: "f"})
	same(t, "with a new one", chained(s, 0), "6 f, 5 e, 4, 3 c")
	s.Stop()
	same(t, "behind Stop", chained(s, 0), "6 f, 5 e, 4, 3 c")
}
