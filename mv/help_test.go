package mv

import (
	"errors"
	"fmt"
	"strconv"
	"strings"
	"testing"
)

// program reads steps as the document's examples tell them: "begin, put 2 x, commit".
func program(t *testing.T, text string) []Step {
	t.Helper()
	kinds := map[string]int{"begin": 1, "get": 2, "put": 3, "delete": 4, "commit": 5, "abort": 6}
	var list []Step
	for part := range strings.SplitSeq(text, ", ") {
		words := append(strings.Split(part, " "), "", "")
		step := Step{Kind: kinds[words[0]], Value: words[2]}
		if step.Kind == 0 {
			t.Fatalf("no step: %q", part)
		}
		if words[1] != "" {
			key, err := strconv.Atoi(words[1])
			if err != nil {
				t.Fatalf("no key: %q", part)
			}
			step.Key = key
		}
		list = append(list, step)
	}
	return list
}

func made(t *testing.T, sites, keys, limit int) *Store {
	t.Helper()
	s, err := New(sites, keys, limit)
	if err != nil || s == nil {
		t.Fatalf("New(%d, %d, %d): %v, %v", sites, keys, limit, s, err)
	}
	t.Cleanup(s.Stop)
	return s
}

func joined(t *testing.T, s *Store, text string) int {
	t.Helper()
	c, err := s.Client(program(t, text))
	if err != nil {
		t.Fatalf("Client(%s): %v", text, err)
	}
	return c
}

// turns picks the client, and holds what is answered against what must be.
func turns(t *testing.T, s *Store, c int, want ...int) {
	t.Helper()
	for i, w := range want {
		if n, err := s.Pick(c); n != w || err != nil {
			t.Fatalf("turn %d of client %d: %d, %v, want %d; %s", i, c, n, err, w, state(s))
		}
	}
}

func same(t *testing.T, what string, got, want any) {
	t.Helper()
	if g, w := fmt.Sprint(got), fmt.Sprint(want); g != w {
		t.Fatalf("%s: %s, want %s", what, g, w)
	}
}

// told answers the events from a place on.
func told(s *Store, from int) string {
	list := s.Events()
	return fmt.Sprint(list[min(from, len(list)):])
}

func versions(s *Store, key int) []Version {
	var list []Version
	for v := range s.Chain(key) {
		list = append(list, v)
	}
	return list
}

// state is all that a store tells, as one text.
func state(s *Store) string {
	text := fmt.Sprint("sites ", s.Sites(), " marks ", s.Marks(), " clock ", s.Clock(), " events ", s.Events())
	for key := -1; key <= 20; key++ {
		text += fmt.Sprint(" ", versions(s, key))
	}
	return text
}

// refused holds an error of a method against the form that the document asks for.
func refused(t *testing.T, err, want error, call string, at int) {
	t.Helper()
	c, ok := err.(*CallError)
	if !ok || c == nil {
		t.Fatalf("%s %d: %v is no *CallError", call, at, err)
	}
	if c.Call != call || c.At != at || c.Err != want || c.Unwrap() != want || !errors.Is(err, want) {
		t.Fatalf("%s %d: %+v, want %v", call, at, *c, want)
	}
}
