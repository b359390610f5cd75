package mv_test

import (
	"testing"

	"mvstore/mv"
	"mvstore/plain"
)

// P1: what is asked from outside gets its errors as plain numbers them.
func TestErrorsByPlain(t *testing.T) {
	if !plain.Different() {
		t.Fatal("two errors are the same")
	}
	if s, n := plain.New(0, 1, 1); s != nil || n != 1 {
		t.Fatalf("New of no shape: %v, %d", s, n)
	}
	s, n := plain.New(1, 1, 1)
	if s == nil || n != 0 {
		t.Fatalf("New: %v, %d", s, n)
	}
	defer s.Stop()
	if c, n := plain.Client(s, []mv.Step{{Kind: 5}}); c != 0 || n != 2 {
		t.Fatalf("a wrong program: %d, %d", c, n)
	}
	for want := range 8 {
		if c, n := plain.Client(s, []mv.Step{{Kind: 1}, {Kind: 2}}); c != want || n != 0 {
			t.Fatalf("client %d: %d, %d", want, c, n)
		}
	}
	if c, n := plain.Client(s, nil); c != 0 || n != 3 {
		t.Fatalf("a ninth client: %d, %d", c, n)
	}
	for turn, want := range []int{1, 1, 1, -1} {
		if a, n := plain.Pick(s, 7); a != want || n != 0 {
			t.Fatalf("turn %d: %d, %d", turn, a, n)
		}
	}
	if a, n := plain.Pick(s, 8); a != 0 || n != 4 {
		t.Fatalf("no client: %d, %d", a, n)
	}
	if l := plain.Chain(s, 0, 0); l != nil {
		t.Fatalf("an empty chain: %v", l)
	}
	for turn, want := range []bool{false, false, true, false, false, true, false} {
		if over, n := plain.Sweep(s); over != want || n != 0 {
			t.Fatalf("small step %d of the sweeper: %v, %d", turn, over, n)
		}
	}
	s.Stop()
	_, a := plain.Client(s, nil)
	_, b := plain.Pick(s, -3)
	over, c := plain.Sweep(s)
	if a != 5 || b != 5 || c != 5 || over {
		t.Fatalf("behind Stop: %d, %d, %d, %v", a, b, c, over)
	}
}
