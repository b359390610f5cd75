package mv

import (
	"fmt"
	"slices"
	"strings"
	"testing"
)

// P2: the edges, and what lies behind them.
func TestNew(t *testing.T) {
	for _, c := range [][3]int{{1, 1, 0}, {8, 20, 1000000}, {1, 20, 5}, {8, 1, 1}, {3, 4, 999999}} {
		s := made(t, c[0], c[1], c[2])
		same(t, "a new store", fmt.Sprint(s.Sites(), s.Marks(), s.Events(), s.Clock()), fmt.Sprint(slices.Repeat([]int{-1}, c[0]))+" [] [] 0")
		for key := range c[1] {
			same(t, "a chain of a new store", versions(s, key), "[]")
		}
		joined(t, s, fmt.Sprintf("begin, get %d", c[1]-1))
		_, err := s.Client(program(t, fmt.Sprintf("begin, get %d", c[1])))
		refused(t, err, ErrProgram, "Client", 0)
	}
}

func TestNewOfNoShape(t *testing.T) {
	least, most := -1<<63, 1<<63-1
	for _, c := range [][3]int{
		{0, 1, 1}, {9, 1, 1}, {-1, 1, 1}, {least, 1, 1}, {most, 1, 1},
		{1, 0, 1}, {1, 21, 1}, {1, -1, 1}, {1, least, 1}, {1, most, 1},
		{1, 1, -1}, {1, 1, 1000001}, {1, 1, least}, {1, 1, most}, {0, 0, -1},
	} {
		if s, err := New(c[0], c[1], c[2]); s != nil || err != ErrShape {
			t.Errorf("New(%v): %v, %v", c, s, err)
		}
	}
}

// long is a right program of n steps, the last one a commit.
func long(n int) []Step {
	list := slices.Repeat([]Step{{Kind: 2}}, n)
	list[0], list[n-1] = Step{Kind: 1}, Step{Kind: 5}
	return list
}

// P3: the numbers of clients, and the most of everything.
func TestRightPrograms(t *testing.T) {
	s := made(t, 1, 20, 1)
	for want, l := range [][]Step{
		nil,
		{},
		program(t, "begin"),
		program(t, "begin, get 19, put 19 x, delete 19, put 0, commit, begin, abort, begin"),
		{{Kind: 1}, {Kind: 3, Value: strings.Repeat("v", 16)}, {Kind: 3, Value: strings.Repeat("ß", 8)}, {Kind: 3, Value: "\x00\xff"}},
		long(200),
		long(199),
		program(t, "begin, commit, begin, commit"),
	} {
		if c, err := s.Client(l); c != want || err != nil {
			t.Fatalf("Client(%v): %d, %v, want %d", l, c, err, want)
		}
		_, err := s.Client(program(t, "abort"))
		refused(t, err, ErrProgram, "Client", 0)
	}
	for _, l := range [][]Step{nil, program(t, "begin"), long(200)} {
		n, err := s.Client(l)
		refused(t, err, ErrMany, "Client", 0)
		same(t, "number beside ErrMany", n, 0)
	}
	_, err := s.Client(long(201))
	refused(t, err, ErrProgram, "Client", 0)
	_, err = s.Pick(8)
	refused(t, err, ErrClient, "Pick", 8)
}

func TestWrongPrograms(t *testing.T) {
	s := made(t, 1, 20, 1)
	for _, text := range []string{
		"get 0", "put 0 x", "delete 0", "commit", "abort",
		"begin, begin", "begin, get 0, begin", "begin, commit, begin, begin",
		"begin, commit, get 0", "begin, abort, put 0 x", "begin, abort, delete 0", "begin, commit, commit", "begin, abort, abort", "begin, commit, abort",
		"begin, get 20", "begin, get -1", "begin, put 20 x", "begin, put -1 x", "begin, delete 20", "begin, delete -1", "begin, get 9223372036854775807",
		"begin 1", "begin, commit 1", "begin, abort 1", "begin -1",
		"begin 0 x", "begin, get 0 x", "begin, delete 0 x", "begin, commit 0 x", "begin, abort 0 x",
		"begin, put 0 seventeen-bytes-v", "begin, put 0 ßßßßßßßßß",
	} {
		n, err := s.Client(program(t, text))
		refused(t, err, ErrProgram, "Client", 0)
		same(t, "number beside ErrProgram", n, 0)
	}
	for _, kind := range []int{0, 7, -1, 1 << 62} {
		_, err := s.Client([]Step{{Kind: kind}})
		refused(t, err, ErrProgram, "Client", 0)
		_, err = s.Client([]Step{{Kind: 1}, {Kind: kind}})
		refused(t, err, ErrProgram, "Client", 0)
	}
	_, err := s.Client(long(201))
	refused(t, err, ErrProgram, "Client", 0)
	same(t, "number of the first client", joined(t, s, "begin"), 0)
}
