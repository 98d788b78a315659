package levels_test

import (
	"errors"
	"fmt"
	"slices"
	"sync"
	"testing"

	"levels/api"
	"levels/levels"
	"levels/plain"
)

// TestTogether: P8: each goroutine's changes are all there, the last one of each key.
func TestTogether(t *testing.T) {
	s := open(t, api.NewDisk(roomy), api.Options{Memory: 3, Tables: 2})
	var lists [][]api.Change
	c := contents{}
	for g := range 8 {
		var l []api.Change
		for i := range 60 {
			l = append(l, api.Change{Key: fmt.Sprint(g, "k", i%25), Value: fmt.Sprint(i), Delete: i%7 == 3})
		}
		lists = append(lists, l)
		c = c.with(l)
	}
	for i, e := range plain.Together(s, lists) {
		if e != api.OK {
			t.Errorf("goroutine %d: %v", i, e)
		}
	}
	if l, err := s.Scan("", "", 0); !slices.Equal(l, c.scan("", "", 0)) || err != nil {
		t.Errorf("the store has %v, %v", l, err)
	}
}

// TestWhole: P8: a batch is seen whole or not at all, and what is seen never goes back, whichever call looks.
func TestWhole(t *testing.T) {
	for _, memory := range []int{1, 5} {
		s := open(t, api.NewDisk(roomy), api.Options{Memory: memory, Tables: 2})
		write(t, s, "a=000,b=000,c=000")
		var w sync.WaitGroup
		for _, look := range []func(*testing.T, *levels.Store) string{byScan, byAll, byGet, byGet} {
			w.Add(1)
			go func() {
				defer w.Done()
				for last := "000"; last != "499" && !t.Failed(); {
					seen := look(t, s)
					if seen < last {
						t.Errorf("%q is seen behind %q", seen, last)
					}
					last = seen
				}
			}()
		}
		for i := range 500 {
			write(t, s, fmt.Sprintf("a=%03d,b=%03d,c=%03d", i, i, i))
		}
		w.Wait()
	}
}

func byScan(t *testing.T, s *levels.Store) string {
	l, err := s.Scan("", "", 0)
	if err != nil || len(l) != 3 || l[0].Value != l[1].Value || l[1].Value != l[2].Value {
		t.Errorf("Scan: %v, %v", l, err)
		return ""
	}
	return l[0].Value
}

func byAll(t *testing.T, s *levels.Store) string {
	keys, first := "", ""
	for k, v := range s.All("", "") {
		if keys += k; keys == "a" {
			first = v
		} else if v != first {
			t.Errorf("All: %q behind %q", v, first)
		}
	}
	if keys != "abc" {
		t.Errorf("All goes through %q", keys)
	}
	return first
}

func byGet(t *testing.T, s *levels.Store) string {
	v, ok, err := s.Get("b")
	if !ok || err != nil {
		t.Errorf("Get: %q, %v, %v", v, ok, err)
	}
	return v
}

// TestCloseTogether: P7, P8: one Close of several is the one, and each other call is ahead of it or behind it.
func TestCloseTogether(t *testing.T) {
	for range 100 {
		closeTogether(t)
	}
}

func closeTogether(t *testing.T) {
	d := api.NewDisk(roomy)
	s := open(t, d, usual)
	write(t, s, "a=1")
	var w sync.WaitGroup
	closed := make([]error, 4)
	wrote := make([]int, 4)
	for g := range 4 {
		w.Add(2)
		go func() {
			defer w.Done()
			for writes(t, s, fmt.Sprint(g, "=", wrote[g]+1)) {
				wrote[g]++
			}
		}()
		go func() {
			defer w.Done()
			closed[g] = s.Close()
		}()
	}
	w.Wait()
	n := 0
	for _, err := range closed {
		if err == nil {
			n++
		} else if !errors.Is(err, api.ErrClosed) {
			t.Errorf("Close: %v", err)
		}
	}
	if n != 1 {
		t.Errorf("Close answered nil %d times", n)
	}
	d.Crash(0, 0)
	s = open(t, d, usual)
	for g, n := range wrote {
		want := ""
		if n > 0 {
			want = fmt.Sprint(n)
		}
		if v, _, err := s.Get(fmt.Sprint(g)); v != want || err != nil {
			t.Errorf("goroutine %d wrote %q last, and the store has %q, %v", g, want, v, err)
		}
	}
}

// writes writes a batch, and tells whether the store was still open.
func writes(t *testing.T, s *levels.Store, text string) bool {
	err := s.Write(batch(text), false)
	if err != nil && !errors.Is(err, api.ErrClosed) {
		t.Errorf("Write: %v", err)
	}
	return err == nil
}
