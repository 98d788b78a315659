package levels_test

import (
	"errors"
	"fmt"
	"maps"
	"math"
	"math/rand"
	"slices"
	"sync"
	"testing"
	"unsafe"

	"levels/api"
	"levels/levels"
)

// take takes a snapshot where that must go well.
func take(t *testing.T, s *levels.Store, want int) {
	t.Helper()
	if n, err := s.Snapshot(); n != want || err != nil {
		t.Fatalf("Snapshot: %d, %v, want %d", n, err, want)
	}
}

// hasAt tests what a snapshot has.
func hasAt(t *testing.T, s *levels.Store, n int, want string) {
	t.Helper()
	if l, err := s.ScanAt(n, "", "", 0); err != nil || tell(l) != want {
		t.Fatalf("snapshot %d has %q, %v, want %q", n, tell(l), err, want)
	}
}

// noSnap tests that a number is none of a snapshot, whatever is asked of it.
func noSnap(t *testing.T, s *levels.Store, n int) {
	t.Helper()
	for _, key := range []string{"a", "", "123456789"} {
		if v, ok, err := s.GetAt(n, key); v != "" || ok || !errors.Is(err, api.ErrSnap) {
			t.Errorf("GetAt(%d, %q): %q, %v, %v", n, key, v, ok, err)
		}
	}
	if l, err := s.ScanAt(n, "", "", 0); l != nil || !errors.Is(err, api.ErrSnap) {
		t.Errorf("ScanAt(%d): %v, %v", n, l, err)
	}
	if err := s.Release(n); !errors.Is(err, api.ErrSnap) {
		t.Errorf("Release(%d): %v", n, err)
	}
}

// TestSnapshotNumbers: P6: MaxSnaps at a time, each with a number of its own; the other numbers are none.
func TestSnapshotNumbers(t *testing.T) {
	d := api.NewDisk(roomy)
	s := open(t, d, usual)
	write(t, s, "a=1")
	for i := range api.MaxSnaps {
		noSnap(t, s, i+1)
		take(t, s, i+1)
	}
	for range 3 {
		if n, err := s.Snapshot(); n != 0 || !errors.Is(err, api.ErrMany) {
			t.Errorf("one more: %d, %v", n, err)
		}
	}
	for _, n := range []int{math.MinInt, -1, 0, api.MaxSnaps + 1, math.MaxInt} {
		noSnap(t, s, n)
	}
	for i := range 50 {
		old := i + 1
		hasAt(t, s, old, "a=1")
		if err := s.Release(old); err != nil {
			t.Errorf("Release(%d): %v", old, err)
		}
		noSnap(t, s, old)
		take(t, s, api.MaxSnaps+old) // a number is never given twice
	}
	if _, err := s.Snapshot(); !errors.Is(err, api.ErrMany) {
		t.Errorf("one more: %v", err)
	}
	for n := range 60 {
		if held := n > 50 && n <= 50+api.MaxSnaps; !held {
			noSnap(t, s, n)
		}
	}
}

// TestSnapshotRefused: P6: what GetAt and ScanAt refuse, and answer, of a snapshot that is there is as in Get and Scan.
func TestSnapshotRefused(t *testing.T) {
	s := open(t, api.NewDisk(roomy), usual)
	write(t, s, "a=1,b=,c=3,-c")
	take(t, s, 1)
	write(t, s, "a=2,b=2,c=2,d=2")
	for key, want := range map[string]error{"": api.ErrKey, "123456789": api.ErrKey, "12345678": nil, "c": nil, "d": nil} {
		if v, ok, err := s.GetAt(1, key); v != "" || ok || !errors.Is(err, want) {
			t.Errorf("GetAt(%q): %q, %v, %v, want %v", key, v, ok, err, want)
		}
	}
	for key, want := range map[string]string{"a": "1", "b": ""} {
		if v, ok, err := s.GetAt(1, key); v != want || !ok || err != nil {
			t.Errorf("GetAt(%q): %q, %v, %v, want %q", key, v, ok, err, want)
		}
	}
	for _, x := range []struct {
		lo, hi string
		limit  int
		want   string
	}{
		{"", "", 0, "a=1,b="}, {"", "", -1, "a=1,b="}, {"", "", math.MinInt, "a=1,b="}, {"", "", math.MaxInt, "a=1,b="},
		{"", "", 1, "a=1"}, {"", "", 2, "a=1,b="}, {"a\x00", "", 1, "b="}, {"a", "b", 0, "a=1"}, {"b", "a", 0, ""},
		{"c", "", 0, ""}, {"123456789", "", 0, "a=1,b="}, {"", "123456789", 0, ""},
	} {
		if l, err := s.ScanAt(1, x.lo, x.hi, x.limit); tell(l) != x.want || err != nil {
			t.Errorf("ScanAt(%q, %q, %d): %v, %v, want %q", x.lo, x.hi, x.limit, l, err, x.want)
		}
	}
}

// TestSnapshotMoments: P6: each snapshot has its own moment; two may have the same; a batch that was refused is in none.
func TestSnapshotMoments(t *testing.T) {
	for memory := 1; memory <= 12; memory++ {
		s := open(t, api.NewDisk(roomy), api.Options{Memory: memory, Tables: 2})
		take(t, s, 1)
		write(t, s, "a=1,b=1,a=2")
		take(t, s, 2)
		take(t, s, 3)
		if err := s.Write(batch("c=1,=1"), false); !errors.Is(err, api.ErrKey) {
			t.Error(err)
		}
		write(t, s, "", "-a,b=3,-b", "a=4")
		take(t, s, 4)
		write(t, s, "a=5,b=5,c=5")
		for range 2 {
			hasAt(t, s, 1, "")
			hasAt(t, s, 2, "a=2,b=1")
			hasAt(t, s, 3, "a=2,b=1")
			hasAt(t, s, 4, "a=4")
			has(t, s, "a=5,b=5,c=5")
			write(t, s, "x=1", "-x")
		}
		if err := s.Release(2); err != nil {
			t.Error(err)
		}
		write(t, s, "x=1", "-x", "x=1", "-x")
		noSnap(t, s, 2)
		hasAt(t, s, 1, "")
		hasAt(t, s, 3, "a=2,b=1")
		hasAt(t, s, 4, "a=4")
	}
}

// TestSnapshotAnew: P6: a store that is opened anew has no snapshots, begins with 1, and has what the last one wrote.
func TestSnapshotAnew(t *testing.T) {
	for _, closes := range []bool{true, false} {
		for memory := 1; memory <= 9; memory++ {
			d := api.NewDisk(roomy)
			for i := range 5 {
				s := open(t, d, api.Options{Memory: memory, Tables: 2})
				for n := range 7 {
					noSnap(t, s, n)
				}
				if i > 0 {
					has(t, s, fmt.Sprintf("a=%d,b=8", i-1))
				}
				for j := range api.MaxSnaps {
					take(t, s, j+1)
					write(t, s, "a=7,b=7", "-a,b=8")
				}
				write(t, s, fmt.Sprintf("a=%d", i))
				if !closes {
					continue
				}
				if err := s.Close(); err != nil {
					t.Error(err)
				}
				everyCallAnswers(t, s, api.ErrClosed)
			}
		}
	}
}

// TestSnapshotFresh: P2: what comes out of a snapshot is nobody else's.
func TestSnapshotFresh(t *testing.T) {
	for memory := 1; memory <= 2; memory++ {
		s := open(t, api.NewDisk(roomy), api.Options{Memory: memory, Tables: 2})
		write(t, s, "a=1")
		take(t, s, 1)
		v, _, _ := s.GetAt(1, "a")
		pairs, _ := s.ScanAt(1, "", "", 0)
		for _, x := range []string{v, pairs[0].Key, pairs[0].Value} {
			*unsafe.StringData(x) = 'x'
		}
		clear(pairs)
		hasAt(t, s, 1, "a=1")
	}
}

// held is snapshots with the contents that they ought to have.
type held map[int]contents

// numbers is the snapshots' numbers.
func (h held) numbers() []int { return slices.Sorted(maps.Keys(h)) }

// at is a snapshot.
func at(s *levels.Store, n int) reader {
	return reader{
		func(key string) (string, bool, error) { return s.GetAt(n, key) },
		func(lo, hi string, limit int) ([]api.Pair, error) { return s.ScanAt(n, lo, hi, limit) },
	}
}

// agree tests some answers of each snapshot.
func (h held) agree(t *testing.T, r *rand.Rand, s *levels.Store, keys int) {
	t.Helper()
	for _, n := range h.numbers() {
		at(s, n).agree(t, r, h[n], keys)
	}
}

// TestSnapshotModel: P6: snapshots that come and go, while tables are made and merged.
func TestSnapshotModel(t *testing.T) {
	for seed := range int64(40) {
		r := rand.New(rand.NewSource(seed))
		d := api.NewDisk(roomy)
		keys := 1 + r.Intn(200)
		s := open(t, d, anyOptions(r))
		c, h, given := contents{}, held{}, 0
		for range 300 {
			l := anyBatch(r, keys)
			if err := s.Write(l, r.Intn(3) == 0); err != nil {
				t.Fatal(err)
			}
			c = c.with(l)
			switch r.Intn(12) {
			case 0, 1:
				n, err := s.Snapshot()
				if len(h) == api.MaxSnaps {
					if n != 0 || !errors.Is(err, api.ErrMany) {
						t.Fatalf("Snapshot: %d, %v", n, err)
					}
				} else if given++; n != given || err != nil {
					t.Fatalf("Snapshot: %d, %v", n, err)
				} else {
					h[n] = c
				}
			case 2:
				if len(h) > 0 {
					n := h.numbers()[r.Intn(len(h))]
					if err := s.Release(n); err != nil {
						t.Fatal(err)
					}
					delete(h, n)
				}
			case 3:
				if r.Intn(12) == 0 {
					s = open(t, d, anyOptions(r))
					h, given = held{}, 0
				}
			}
			reader{s.Get, s.Scan}.agree(t, r, c, keys)
			h.agree(t, r, s, keys)
		}
	}
}

// TestSnapshotLong: P6: a snapshot outlasts thousands of changes of the same keys, and of others, through all levels.
func TestSnapshotLong(t *testing.T) {
	for _, o := range []api.Options{{Memory: 1, Tables: 2}, {Memory: 7, Tables: 3}, {Memory: 32, Tables: 6}} {
		r := rand.New(rand.NewSource(5))
		s := open(t, api.NewDisk(roomy), o)
		c, h := contents{}, held{}
		for i := range 2400 {
			if i%600 == 300 {
				n, err := s.Snapshot()
				if err != nil {
					t.Fatal(err)
				}
				h[n] = c
			}
			l := anyBatch(r, 500)
			if err := s.Write(l, false); err != nil {
				t.Fatal(err)
			}
			c = c.with(l)
			if i%50 == 0 {
				h.agree(t, r, s, 500)
			}
		}
		for n, c := range h {
			if l, err := s.ScanAt(n, "", "", 0); !slices.Equal(l, c.scan("", "", 0)) || err != nil {
				t.Errorf("%v: snapshot %d has %v, %v", o, n, l, err)
			}
		}
		if l, err := s.Scan("", "", 0); !slices.Equal(l, c.scan("", "", 0)) || err != nil {
			t.Errorf("%v: the store has %v, %v", o, l, err)
		}
	}
}

// TestSnapshotReadFails: P12: in GetAt and ScanAt the disk's error is answered, with zero values, and nothing else changes.
func TestSnapshotReadFails(t *testing.T) {
	d := api.NewDisk(roomy)
	s := open(t, d, api.Options{Memory: 1, Tables: 2})
	write(t, s, "a=1", "b=2")
	take(t, s, 1)
	write(t, s, "a=3", "-b", "c=5")
	for after := range 2 {
		d.Fail(after, math.MaxInt)
		if l, err := s.ScanAt(1, "", "", 0); l != nil || !errors.Is(err, api.ErrDisk) {
			t.Errorf("ScanAt: %v, %v", l, err)
		}
	}
	if v, ok, err := s.GetAt(1, "a"); v != "" || ok || !errors.Is(err, api.ErrDisk) {
		t.Errorf("GetAt: %q, %v, %v", v, ok, err)
	}
	if _, _, err := s.GetAt(1, ""); !errors.Is(err, api.ErrKey) {
		t.Errorf("GetAt of no key: %v", err)
	}
	noSnap(t, s, 2)
	take(t, s, 2) // a snapshot asks nothing of the disk
	if err := s.Release(2); err != nil {
		t.Errorf("Release: %v", err)
	}
	d.Fail(0, 0)
	hasAt(t, s, 1, "a=1,b=2")
	has(t, s, "a=3,c=5")
	write(t, s, "d=4")
	hasAt(t, s, 1, "a=1,b=2")
	has(t, s, "a=3,c=5,d=4")
}

// TestSnapshotsTogether: P8: snapshots are taken, asked and released by several goroutines while others write.
func TestSnapshotsTogether(t *testing.T) {
	s := open(t, api.NewDisk(roomy), api.Options{Memory: 5, Tables: 2})
	write(t, s, "a=000,b=000,c=000")
	var w sync.WaitGroup
	for range api.MaxSnaps {
		w.Add(1)
		go func() {
			defer w.Done()
			for last, seen := 0, "000"; seen != "299" && !t.Failed(); {
				n, err := s.Snapshot()
				if err != nil || n <= last {
					t.Errorf("Snapshot: %d, %v, behind %d", n, err, last)
				}
				v := atOneMoment(t, s, n)
				if v < seen {
					t.Errorf("%q is seen behind %q", v, seen)
				}
				if err := s.Release(n); err != nil {
					t.Errorf("Release(%d): %v", n, err)
				}
				last, seen = n, v
			}
		}()
	}
	for i := range 300 {
		write(t, s, fmt.Sprintf("a=%03d,b=%03d,c=%03d", i, i, i))
	}
	w.Wait()
}

// atOneMoment tests that all that a snapshot has is of one batch, and gives the value.
func atOneMoment(t *testing.T, s *levels.Store, n int) string {
	l, err := s.ScanAt(n, "", "", 0)
	if err != nil || len(l) != 3 {
		t.Errorf("ScanAt: %v, %v", l, err)
		return ""
	}
	for range 3 {
		for _, p := range l {
			if v, ok, err := s.GetAt(n, p.Key); v != l[0].Value || !ok || err != nil {
				t.Errorf("GetAt(%d, %q): %q, %v, %v, want %q", n, p.Key, v, ok, err, l[0].Value)
			}
		}
	}
	return l[0].Value
}

// TestReleaseTogether: P8: of several that release a snapshot one does, and of several that take the last number one gets it.
func TestReleaseTogether(t *testing.T) {
	for range 100 {
		s := open(t, api.NewDisk(roomy), usual)
		for i := range api.MaxSnaps - 1 {
			take(t, s, i+1)
		}
		var w sync.WaitGroup
		released, taken := make([]error, 4), make([]int, 4)
		for g := range 4 {
			w.Add(2)
			go func() {
				defer w.Done()
				released[g] = s.Release(1)
			}()
			go func() {
				defer w.Done()
				taken[g], _ = s.Snapshot()
			}()
		}
		w.Wait()
		n := 0
		for _, err := range released {
			if err == nil {
				n++
			} else if !errors.Is(err, api.ErrSnap) {
				t.Errorf("Release: %v", err)
			}
		}
		slices.Sort(taken)
		if first := []int{0, 0, 0, 4}; n != 1 || !slices.Equal(taken, first) && !slices.Equal(taken, []int{0, 0, 4, 5}) {
			t.Errorf("released %d times; taken: %v", n, taken)
		}
	}
}
