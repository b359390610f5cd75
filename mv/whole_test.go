package mv

import (
	"fmt"
	"slices"
	"strings"
	"testing"
)

// The document's first example, as it is told there.
func TestExample(t *testing.T) {
	s := made(t, 3, 3, 9)
	a := joined(t, s, "begin, put 2 x, put 0 y, put 2 z, delete 1, commit")
	b := joined(t, s, "begin, get 0, get 2, commit, begin, get 0, get 1, get 2, commit")
	turns(t, s, b, 1)
	same(t, "sites", s.Sites(), "[-2 -1 -1]")
	turns(t, s, b, 1)
	same(t, "begun", fmt.Sprint(s.Sites(), s.Events()), "[0 -1 -1] [{1 0 1  0}]")
	turns(t, s, a, 1, 1, 1, 1, 1, 1)
	turns(t, s, a, 1, 1, 1)
	same(t, "marks", s.Marks(), "[{0 0 0} {1 0 0} {2 0 0}]")
	turns(t, s, b, 1)
	turns(t, s, a, 1)
	same(t, "the stamp", fmt.Sprint(s.Clock(), s.Marks()), "1 [{0 0 1} {1 0 1} {2 0 1}]")
	turns(t, s, b, 1, 1)
	turns(t, s, b, 1, 1, 0)
	turns(t, s, a, 1)
	same(t, "a version", fmt.Sprint(versions(s, 0), s.Marks()), "[{1 false y}] [{1 0 1} {2 0 1}]")
	turns(t, s, b, 1)
	turns(t, s, a, 1)
	turns(t, s, b, 1)
	turns(t, s, a, 1)
	turns(t, s, b, 1)
	turns(t, s, a, 1, -1)
	turns(t, s, b, 1, -1)
	same(t, "events", told(s, 6), "[{1 1 3  0} {1 2 3  0} {1 3 1  0} {1 4 1  1} {1 5 2 y 0} {1 6 3  0} {1 7 2 z 0} {0 5 1  1} {1 8 1  0}]")
}

// run is a store that is driven, and what has been seen of it.
type run struct {
	*testing.T
	s        *Store
	programs [][]Step
	picks    []int // how it was driven (-1: the sweeper), for whoever reads a failure
	broom    broom
	swept    bool
}

func newRun(t *testing.T, sites, keys, limit int, programs ...[]Step) *run {
	t.Helper()
	r := &run{T: t, s: made(t, sites, keys, limit), programs: programs}
	for _, l := range programs {
		if _, err := r.s.Client(l); err != nil {
			t.Fatal(err)
		}
	}
	return r
}

func (r *run) wrong(what ...any) {
	r.Helper()
	r.Fatalf("%s; programs %v, picks %v, %s", fmt.Sprint(what...), r.programs, r.picks, state(r.s))
}

// pick takes a small step, and looks at what must hold of each.
func (r *run) pick(c int) int {
	r.Helper()
	r.picks = append(r.picks, c)
	clock, events := r.s.Clock(), len(r.s.Events())
	before := look(r.s, events)
	blocked := r.blocked(c)
	n, err := r.s.Pick(c)
	if err != nil {
		r.wrong(err)
	}
	if n != 1 && look(r.s, events) != before {
		r.wrong("answered ", n, ", and changed ", before)
	}
	if now := r.s.Clock(); now != clock && now != clock+1 || now > r.s.limit {
		r.wrong("the clock was ", clock)
	}
	list := r.s.Events()
	if len(list) > events+1 {
		r.wrong("two events of one small step")
	}
	if len(list) == events+1 {
		if e := list[events]; e.Client != c || (e.Outcome == conflict) && !blocked {
			r.wrong("an event that has no cause: ", e)
		}
	}
	return n
}

// blocked tells whether the client's open transaction has written a key that
// another one's mark is on, or that has a version above its beginning.
func (r *run) blocked(c int) bool {
	open := transaction{}
	for _, tx := range r.transactions() {
		if tx.client == c {
			open = tx
		}
	}
	for key := range open.writes {
		for _, m := range r.s.Marks() {
			if m.Key == key && m.Client != c {
				return true
			}
		}
		if l := versions(r.s, key); len(l) > 0 && l[0].Stamp > open.began {
			return true
		}
	}
	return false
}

// transaction is one as the events tell it.
type transaction struct {
	client, began  int
	writes         map[int]string
	outcome, stamp int
	reads          []read
}

// read is a get of what the transaction had not written itself.
type read struct {
	key  int
	what string
}

const none = "(none)"

// transactions answers those that have run, in the order of their beginnings.
func (r *run) transactions() []transaction {
	var all []transaction
	open := map[int]int{}
	for _, e := range r.s.Events() {
		step := r.programs[e.Client][e.Step]
		if e.Outcome == noSite || e.Outcome == leftOut {
			continue
		}
		if step.Kind == begin {
			open[e.Client] = len(all)
			all = append(all, transaction{client: e.Client, began: e.Stamp, writes: map[int]string{}})
			continue
		}
		tx := &all[open[e.Client]]
		switch step.Kind {
		case get:
			r.take(tx, step.Key, e)
		case put:
			tx.writes[step.Key] = step.Value
		case remove:
			tx.writes[step.Key] = none
		case commit:
			tx.outcome, tx.stamp = e.Outcome, e.Stamp
		}
	}
	return all
}

// take adds what a get was answered to the transaction.
func (r *run) take(tx *transaction, key int, e Event) {
	r.Helper()
	what := e.Value
	if e.Outcome == notFound {
		what = none
	}
	if own, ok := tx.writes[key]; !ok {
		tx.reads = append(tx.reads, read{key, what})
	} else if own != what {
		r.wrong("not its own: ", e)
	}
}

// judge holds what has come of it against P9. No transaction is half committed.
func (r *run) judge() {
	r.Helper()
	all := r.transactions()
	slices.SortStableFunc(all, func(x, y transaction) int { return x.stamp - y.stamp })
	for i, tx := range all {
		if tx.stamp != 0 && i > 0 && tx.stamp != all[i-1].stamp+1 {
			r.wrong("a stamp is left out, or used twice: ", tx)
		}
		for _, g := range tx.reads {
			if want := r.asOf(all, g.key, tx.began); g.what != want {
				r.wrong("read ", g, ", want ", want, ": ", tx)
			}
		}
		for _, other := range all[:i] {
			if tx.stamp != 0 && other.stamp != 0 && meet(tx, other) && tx.began < other.stamp {
				r.wrong("both are committed: ", other, " and ", tx)
			}
		}
	}
	if len(all) > 0 && r.s.Clock() != all[len(all)-1].stamp {
		r.wrong("the clock")
	}
	r.judgeChains(all)
}

func meet(a, b transaction) bool {
	for key := range a.writes {
		if _, ok := b.writes[key]; ok {
			return true
		}
	}
	return false
}

// asOf is what a key was at a stamp; the transactions lie by their stamps.
func (r *run) asOf(all []transaction, key, stamp int) string {
	what := none
	for _, tx := range all {
		if w, ok := tx.writes[key]; ok && tx.stamp != 0 && tx.stamp <= stamp {
			what = w
		}
	}
	return what
}

// judgeChains holds the chains against what was committed: all of it, and nothing else; of what has been swept the newest ones.
func (r *run) judgeChains(all []transaction) {
	r.Helper()
	for key := range r.s.chains {
		var want []Version
		for _, tx := range all {
			if what, ok := tx.writes[key]; ok && tx.stamp != 0 {
				want = append(want, Version{tx.stamp, what == none, strings.ReplaceAll(what, none, "")})
			}
		}
		slices.Reverse(want)
		got := versions(r.s, key)
		if len(got) > len(want) || !slices.Equal(got, want[:len(got)]) || len(got) < len(want) && !r.swept {
			r.wrong("the chain of ", key, ", want ", want)
		}
	}
	if len(r.s.Marks()) > 0 {
		r.wrong("marks are left")
	}
}

// end picks all clients in turn until none goes on.
func (r *run) end() {
	r.Helper()
	for range 10000 {
		going := false
		for c := range r.programs {
			going = r.pick(c) == 1 || going
		}
		if !going {
			return
		}
	}
	r.wrong("it does not come to an end")
}

// orders calls on every order in which each one takes as many small steps as are left to it.
func orders(left []int, so []int, call func([]int)) {
	at := false
	for c, n := range left {
		if n > 0 {
			at = true
			rest := slices.Clone(left)
			rest[c]--
			orders(rest, append(slices.Clone(so), c), call)
		}
	}
	if !at {
		call(so)
	}
}

// P6, P9: two clients, in every order of their small steps.
func TestEveryOrder(t *testing.T) {
	for _, c := range []struct {
		a, b    string
		limit   int
		m, n    int
		several int // how many different lists of outcomes there are at least
	}{
		{"begin, put 0 a, commit", "begin, put 0 b, commit", 9, 7, 7, 4},
		{"begin, put 0 a, put 1 a, commit", "begin, get 1, get 0, commit", 9, 10, 5, 2},
		{"begin, put 0 a, commit", "begin, delete 1, put 0 b, commit", 1, 7, 7, 4},
		{"begin, put 1 a, commit", "begin, get 1, put 0 b, get 1, commit", 9, 7, 7, 3},
	} {
		seen := map[string]bool{}
		orders([]int{c.m, c.n}, nil, func(order []int) {
			r := newRun(t, 2, 2, c.limit, program(t, c.a), program(t, c.b))
			for _, c := range order {
				r.pick(c)
			}
			r.end()
			r.judge()
			seen[fmt.Sprint(r.transactions())] = true
			r.s.Stop()
		})
		if len(seen) < c.several {
			t.Fatalf("%s and %s: only %v", c.a, c.b, seen)
		}
	}
}

// dice answers numbers by a rule, so that each run is the same.
type dice uint64

func (d *dice) below(n int) int {
	*d = *d*6364136223846793005 + 1442695040888963407
	return int(*d>>33) % n
}

// anyProgram is a right one, with more writes than reads.
func (d *dice) anyProgram(keys int) []Step {
	list := []Step{}
	for range 1 + d.below(5) {
		list = append(list, Step{Kind: begin})
		for range d.below(5) {
			step := Step{Kind: get + d.below(3), Key: d.below(keys)}
			if step.Kind == put {
				step.Value = fmt.Sprint("v", d.below(1000))
			}
			list = append(list, step)
		}
		list = append(list, Step{Kind: []int{commit, commit, commit, commit, abort}[d.below(5)]})
	}
	return list
}

// P6, P9: many clients, by many rules; every outcome comes about.
func TestManyClients(t *testing.T) {
	outcomes := map[int]int{}
	for seed := range 200 {
		d := dice(seed)
		keys := 1 + d.below(5)
		var programs [][]Step
		for range 2 + d.below(7) {
			programs = append(programs, d.anyProgram(keys))
		}
		r := newRun(t, 1+d.below(8), keys, []int{0, 1, 3, 1000}[d.below(4)], programs...)
		for range d.below(400) {
			r.pick(d.below(len(programs)))
		}
		r.end()
		r.judge()
		for _, e := range r.s.Events() {
			outcomes[e.Outcome]++
		}
		r.s.Stop()
	}
	for outcome := done; outcome <= leftOut; outcome++ {
		if outcomes[outcome] < 20 {
			t.Errorf("outcome %d came about %d times", outcome, outcomes[outcome])
		}
	}
}

// broom tells P7 a second time, by what the store tells of itself.
type broom struct{ at, w int }

// step answers all chains as a small step of the sweeper must leave them, and whether it is the last one of a pass.
func (b *broom) step(s *Store) (string, bool) {
	text := ""
	sites := s.Sites()
	for key := range s.chains {
		list := versions(s, key)
		if key == b.at-1-len(sites) {
			list = b.left(list)
		}
		text += fmt.Sprint(list)
	}
	if b.at == 0 {
		b.w = s.Clock()
	} else if b.at <= len(sites) && sites[b.at-1] >= 0 {
		b.w = min(b.w, sites[b.at-1])
	}
	b.at = (b.at + 1) % (1 + len(sites) + len(s.chains))
	return text, b.at == 0
}

func (b *broom) left(list []Version) []Version {
	for i, v := range list {
		if v.Stamp <= b.w && v.Gone {
			return list[:i]
		}
		if v.Stamp <= b.w {
			return list[:i+1]
		}
	}
	return list
}

// sweep takes a small step of the sweeper, and holds what it leaves against what the broom would.
func (r *run) sweep() bool {
	r.Helper()
	r.swept = true
	r.picks = append(r.picks, -1)
	rest := fmt.Sprint(r.s.Sites(), r.s.Marks(), r.s.Clock(), r.s.Events())
	want, last := r.broom.step(r.s)
	over, err := r.s.Sweep()
	got := ""
	for key := range r.s.chains {
		got += fmt.Sprint(versions(r.s, key))
	}
	if err != nil || over != last || got != want {
		r.wrong("the sweeper: ", over, err, ", want ", last, " and the chains ", want)
	}
	if rest != fmt.Sprint(r.s.Sites(), r.s.Marks(), r.s.Clock(), r.s.Events()) {
		r.wrong("the sweeper has changed ", rest)
	}
	return over
}

// clean sweeps to the end of a whole pass: of each key that has a value there is one version, of others none.
func (r *run) clean() {
	r.Helper()
	for range 2 {
		for !r.sweep() {
		}
	}
	all := r.transactions()
	slices.SortStableFunc(all, func(x, y transaction) int { return x.stamp - y.stamp })
	for key := range r.s.chains {
		what, list := r.asOf(all, key, r.s.Clock()), versions(r.s, key)
		if what == none && len(list) == 0 {
			continue
		}
		if len(list) != 1 || list[0].Gone || list[0].Value != what {
			r.wrong("the chain of ", key, " behind all, want one version, of ", what)
		}
	}
}

// P7, P9: many clients, and the sweeper among them, more and less often.
func TestManyClientsAndSweeper(t *testing.T) {
	least := 0
	for seed := range 200 {
		d := dice(seed + 1000)
		keys := 1 + d.below(5)
		var programs [][]Step
		for range 2 + d.below(7) {
			programs = append(programs, d.anyProgram(keys))
		}
		r := newRun(t, 1+d.below(8), keys, []int{3, 1000, 1000, 1000}[d.below(4)], programs...)
		often := 1 + d.below(6)
		for range d.below(600) {
			if d.below(7) < often {
				r.sweep()
			} else {
				r.pick(d.below(len(programs)))
			}
		}
		r.end()
		r.judge()
		for key := range keys {
			least += len(versions(r.s, key))
		}
		r.clean()
		for key := range keys {
			least -= len(versions(r.s, key))
		}
		r.s.Stop()
	}
	if least < 100 {
		t.Errorf("only %d versions were left for the last passes", least)
	}
}

// driven picks clients as a list says, with so many small steps of the sweeper ahead of each turn as between says, and answers all that clients are told.
func driven(t *testing.T, sites, keys int, programs [][]Step, picks []int, between func(turn int) int) string {
	t.Helper()
	s := made(t, sites, keys, 1000)
	defer s.Stop()
	for _, l := range programs {
		if _, err := s.Client(l); err != nil {
			t.Fatal(err)
		}
	}
	var text strings.Builder
	for turn, c := range picks {
		for range between(turn) {
			if _, err := s.Sweep(); err != nil {
				t.Fatal(err)
			}
		}
		n, err := s.Pick(c)
		fmt.Fprintln(&text, c, n, err, s.Sites(), s.Marks(), s.Clock(), len(s.Events()))
	}
	return text.String() + fmt.Sprint(s.Events())
}

// P9: the same turns of clients, with the sweeper between them in many ways, and without it: the same answers and events.
func TestSameWithSweeper(t *testing.T) {
	for seed := range 25 {
		d := dice(seed + 5000)
		sites, keys := 1+d.below(8), 1+d.below(4)
		var programs [][]Step
		for range 3 + d.below(6) {
			programs = append(programs, append(d.anyProgram(keys), d.anyProgram(keys)...))
		}
		var picks []int
		for range 500 {
			picks = append(picks, d.below(len(programs)))
		}
		for turn := range 1200 {
			picks = append(picks, turn/20%len(programs))
		}
		want := driven(t, sites, keys, programs, picks, func(int) int { return 0 })
		whole := 1 + sites + keys
		for i, between := range []func(turn int) int{
			func(int) int { return 1 },
			func(int) int { return whole },
			func(int) int { return whole - 1 },
			func(turn int) int { return max(0, 2-turn%3) },
			func(turn int) int { return turn / 7 % 2 * (whole + 3) },
			func(int) int { return d.below(4) / 2 },
			func(int) int { return d.below(2 * whole) },
			func(turn int) int { return turn % 100 / 99 * (2*whole + 1) },
		} {
			if got := driven(t, sites, keys, programs, picks, between); got != want {
				t.Fatalf("seed %d, way %d: programs %v, picks %v: %s\n\nwithout the sweeper %s", seed, i, programs, picks, got, want)
			}
		}
	}
}

// P7, P9: a writer, another client and the sweeper, in every order of their small steps; the same turns without the sweeper: the same events.
func TestEveryOrderWithSweeper(t *testing.T) {
	const sweeper = 2
	for _, c := range []struct {
		a, b  string
		ahead [2]int // the small steps of both that are taken ahead of all
		left  []int  // those of which every order is tried; the last number is the sweeper's
	}{
		{"begin, put 0 new, commit", "begin, get 0, commit", [2]int{4, 0}, []int{3, 3, 4}},
		{"begin, delete 0, commit", "begin, get 0, commit", [2]int{4, 0}, []int{3, 3, 4}},
		{"begin, delete 0, commit", "begin, put 0 other, commit", [2]int{4, 1}, []int{3, 3, 4}},
		{"begin, put 0 new, commit", "begin, delete 0, commit", [2]int{5, 1}, []int{2, 4, 4}},
	} {
		try := func(order []int, offset int) string {
			r := newRun(t, 2, 1, 9, program(t, "begin, put 0 old, commit"), program(t, c.a), program(t, c.b))
			defer r.s.Stop()
			ran(t, r.s, 0)
			turns(t, r.s, 1, slices.Repeat([]int{1}, c.ahead[0])...)
			turns(t, r.s, 2, slices.Repeat([]int{1}, c.ahead[1])...)
			for range offset {
				r.sweep()
			}
			for _, who := range order {
				if who == sweeper {
					r.sweep()
				} else {
					r.pick(1 + who)
				}
			}
			r.end()
			r.judge()
			return fmt.Sprint(r.s.Events())
		}
		without, seen := map[string]string{}, map[string]bool{}
		offset := 0 // how far the sweeper is in its pass already
		orders(c.left, nil, func(order []int) {
			clients := slices.DeleteFunc(slices.Clone(order), func(who int) bool { return who == sweeper })
			name := fmt.Sprint(clients)
			if without[name] == "" {
				without[name] = try(clients, 0)
				seen[without[name]] = true
			}
			offset = (offset + 1) % 4
			same(t, fmt.Sprint(c, order, offset), try(order, offset), without[name])
		})
		if len(seen) < 2 {
			t.Fatalf("%s and %s: only %v", c.a, c.b, seen)
		}
	}
}
