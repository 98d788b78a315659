package levels_test

import (
	"errors"
	"fmt"
	"maps"
	"math/rand"
	"slices"
	"strings"
	"testing"

	"levels/api"
	"levels/levels"
)

const roomy = 1 << 30

var usual = api.Options{Memory: 4, Tables: 2}

// batch gives the changes of a text: key=value or -key, with commas between.
func batch(s string) []api.Change {
	var l []api.Change
	for _, w := range strings.Split(s, ",") {
		if s == "" {
			break
		}
		if k, ok := strings.CutPrefix(w, "-"); ok {
			l = append(l, api.Change{Key: k, Delete: true})
			continue
		}
		k, v, _ := strings.Cut(w, "=")
		l = append(l, api.Change{Key: k, Value: v})
	}
	return l
}

// open opens a store where that must go well.
func open(t *testing.T, d *api.Disk, o api.Options) *levels.Store {
	t.Helper()
	s, err := levels.Open(d, o)
	if err != nil {
		t.Fatalf("Open: %v", err)
	}
	return s
}

// write writes batches where that must go well.
func write(t *testing.T, s *levels.Store, texts ...string) {
	t.Helper()
	for _, x := range texts {
		if err := s.Write(batch(x), false); err != nil {
			t.Fatalf("Write(%q): %v", x, err)
		}
	}
}

// tell is pairs as a text.
func tell(l []api.Pair) string {
	var words []string
	for _, p := range l {
		words = append(words, fmt.Sprintf("%s=%s", p.Key, p.Value))
	}
	return strings.Join(words, ",")
}

// has tests what a store has.
func has(t *testing.T, s *levels.Store, want string) {
	t.Helper()
	l, err := s.Scan("", "", 0)
	if err != nil || tell(l) != want {
		t.Fatalf("the store has %q, %v, want %q", tell(l), err, want)
	}
}

// contents is the contents that there ought to be.
type contents map[string]string

// with is the contents behind a batch.
func (c contents) with(l []api.Change) contents {
	n := maps.Clone(c)
	for _, x := range l {
		if x.Delete {
			delete(n, x.Key)
		} else {
			n[x.Key] = x.Value
		}
	}
	return n
}

// scan is what Scan ought to answer.
func (c contents) scan(lo, hi string, limit int) []api.Pair {
	var l []api.Pair
	for _, k := range slices.Sorted(maps.Keys(c)) {
		if k >= lo && (hi == "" || k < hi) && (limit <= 0 || len(l) < limit) {
			l = append(l, api.Pair{Key: k, Value: c[k]})
		}
	}
	return l
}

// are tells whether these pairs are all that there is, by their keys.
func (c contents) are(l []api.Pair) bool {
	for i, p := range l {
		if v, ok := c[p.Key]; !ok || v != p.Value || i > 0 && l[i-1].Key >= p.Key {
			return false
		}
	}
	return len(l) == len(c)
}

// prefix tells the number of batches after which the contents were these; -1, if they never were. Of several it is the last.
func prefix(l []contents, got []api.Pair) int {
	for i, c := range slices.Backward(l) {
		if c.are(got) {
			return i
		}
	}
	return -1
}

// anyKey is one of n keys.
func anyKey(r *rand.Rand, n int) string { return fmt.Sprint("k", r.Intn(n)) }

// anyBatch is a batch over n keys.
func anyBatch(r *rand.Rand, n int) []api.Change {
	var l []api.Change
	for range 1 + r.Intn(api.MaxChanges)*r.Intn(2) {
		c := api.Change{Key: anyKey(r, n), Value: fmt.Sprint(r.Intn(1e9)), Delete: r.Intn(4) == 0}
		l = append(l, c)
	}
	return l
}

func anyOptions(r *rand.Rand) api.Options {
	return api.Options{Memory: 1 + r.Intn(api.MaxMemory), Tables: 2 + r.Intn(api.MaxTables-1)}
}

// everyCall makes each call but Close, and gives the errors by the calls' names.
func everyCall(s *levels.Store) map[string]error {
	m := map[string]error{}
	m["Write"] = s.Write(batch("a=1"), false)
	m["Write of nothing"] = s.Write(nil, true)
	m["Write of no key"] = s.Write(batch("=1"), false)
	_, _, m["Get"] = s.Get("a")
	_, _, m["Get of no key"] = s.Get("")
	_, m["Scan"] = s.Scan("", "", 0)
	_, m["Snapshot"] = s.Snapshot()
	_, _, m["GetAt"] = s.GetAt(1, "a")
	_, m["ScanAt"] = s.ScanAt(1, "", "", 0)
	m["Release"] = s.Release(1)
	_, m["Shape"] = s.Shape()
	m["Compact"] = s.Compact()
	return m
}

// everyCallAnswers tests that each call but Close answers an error, and All nothing.
func everyCallAnswers(t *testing.T, s *levels.Store, want error) {
	t.Helper()
	for name, err := range everyCall(s) {
		if !errors.Is(err, want) {
			t.Errorf("%s: %v, want %v", name, err, want)
		}
	}
	for k, v := range s.All("", "") {
		t.Errorf("All goes through %q, %q", k, v)
	}
	noResults(t, s)
}

// noResults tests a store of which each call answers an error: every other result is zero.
func noResults(t *testing.T, s *levels.Store) {
	t.Helper()
	for _, x := range []reader{{s.Get, s.Scan}, at(s, 1)} {
		v, ok, err := x.get("a")
		l, scanErr := x.scan("", "", 0)
		if v != "" || ok || err == nil || l != nil || scanErr == nil {
			t.Errorf("beside an error: %q, %v, %v; %v, %v", v, ok, err, l, scanErr)
		}
	}
	n, err := s.Snapshot()
	l, shapeErr := s.Shape()
	if n != 0 || err == nil || l != nil || shapeErr == nil {
		t.Errorf("beside an error: %d, %v; %v, %v", n, err, l, shapeErr)
	}
}

// stuck tests a store that failed with that error: each call but Close answers the same; Close does once, and closes.
func stuck(t *testing.T, s *levels.Store, err error) {
	t.Helper()
	want := api.Tell(err)
	everyCallAnswers(t, s, want)
	if err := s.Close(); !errors.Is(err, want) {
		t.Errorf("Close: %v, want %v", err, want)
	}
	if err := s.Close(); !errors.Is(err, api.ErrClosed) {
		t.Errorf("Close again: %v", err)
	}
	everyCallAnswers(t, s, api.ErrClosed)
}
