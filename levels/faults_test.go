package levels_test

import (
	"errors"
	"fmt"
	"math"
	"math/rand"
	"slices"
	"testing"

	"levels/api"
	"levels/levels"
)

// failsYet tells whether one of the next operations of a disk fails: at most so many are done ahead of that.
func failsYet(d *api.Disk, after int) bool {
	for range after + 1 {
		if _, err := d.Size(""); errors.Is(err, api.ErrDisk) {
			return true
		}
	}
	return false
}

// TestFails: an operation fails, and no crash comes: the store answers the error from then on, and the next one has all that was done.
func TestFails(t *testing.T) {
	for after := range 150 {
		for _, times := range []int{1, 2, math.MaxInt} {
			r := rand.New(rand.NewSource(int64(after)))
			d := api.NewDisk(roomy)
			p := newPast(r.Intn(2) == 0)
			s := open(t, d, anyOptions(r))
			d.Fail(after, times)
			if err := p.write(r, s, 60); err == nil {
				if times == 1 && !failsYet(d, after) {
					t.Errorf("behind %d operations the disk failed, and no call answered that", after)
				}
				continue
			}
			d.Fail(0, 0)
			everyCallAnswers(t, s, api.ErrDisk)
			if err := s.Close(); !errors.Is(err, api.ErrDisk) {
				t.Errorf("Close: %v", err)
			}
			if err := s.Close(); !errors.Is(err, api.ErrClosed) {
				t.Errorf("Close again: %v", err)
			}
			everyCallAnswers(t, s, api.ErrClosed)
			p.check(t, open(t, d, anyOptions(r)), p.done())
		}
	}
}

// TestRoom: the disk is full: the next store has all that was done, and needs no room to be opened.
func TestRoom(t *testing.T) {
	for room := 0; room < 2500; room += 3 {
		r := rand.New(rand.NewSource(int64(room % 7)))
		d := api.NewDisk(room)
		p := newPast(room%2 == 0)
		o := anyOptions(r)
		s := open(t, d, o)
		if err := p.write(r, s, 1000); !errors.Is(err, api.ErrRoom) {
			t.Fatalf("room for %d bytes: %v", room, err)
		}
		everyCallAnswers(t, s, api.ErrRoom)
		if err := s.Close(); !errors.Is(err, api.ErrRoom) {
			t.Errorf("Close: %v", err)
		}
		p.check(t, open(t, d, o), p.done())
		d.Crash(0, uint(room%50))
		p.check(t, open(t, d, o), p.safe)
	}
}

// TestCloseFails: P7: a Close that answers an error closes.
func TestCloseFails(t *testing.T) {
	for after := range 2 {
		d := api.NewDisk(roomy)
		s := open(t, d, usual)
		write(t, s, "a=1")
		d.Fail(after, 1)
		if err := s.Close(); !errors.Is(err, api.ErrDisk) {
			t.Errorf("Close: %v", err)
		}
		everyCallAnswers(t, s, api.ErrClosed)
		has(t, open(t, d, usual), "a=1")
	}
}

// TestOpenFails: Open answers what the disk does, and the disk is none the worse for it.
func TestOpenFails(t *testing.T) {
	for seed := range int64(20) {
		r := rand.New(rand.NewSource(seed))
		d := api.NewDisk(roomy)
		p := newPast(seed%2 == 1)
		s := open(t, d, api.Options{Memory: 32, Tables: 6})
		d.Fail(r.Intn(200), math.MaxInt)
		p.write(r, s, 60)
		d.Fail(0, 0)
		p.check(t, open(t, d.Copy(), usual), p.done())
		for after := range 60 {
			c := d.Copy()
			c.Fail(after, 1+r.Intn(3))
			s, err := levels.Open(c, api.Options{Memory: 1, Tables: 2})
			c.Fail(0, 0)
			if (s == nil) != (err != nil) || err != nil && !errors.Is(err, api.ErrDisk) {
				t.Fatalf("Open: %v, %v", s, err)
			}
			if r.Intn(2) == 0 {
				c.Crash(uint(r.Intn(20)), uint(r.Intn(100)))
			}
			p.check(t, open(t, c, anyOptions(r)), len(p.all)-1)
		}
	}
}

// TestReadFails: in Get and Scan the disk's error is answered, with zero values, and nothing else changes.
func TestReadFails(t *testing.T) {
	d := api.NewDisk(roomy)
	s := open(t, d, api.Options{Memory: 1, Tables: 2})
	write(t, s, "a=1", "b=2", "c=3")
	for after := range 2 {
		d.Fail(after, math.MaxInt)
		if l, err := s.Scan("", "", 0); l != nil || !errors.Is(err, api.ErrDisk) {
			t.Errorf("Scan: %v, %v", l, err)
		}
	}
	if v, ok, err := s.Get("a"); v != "" || ok || !errors.Is(err, api.ErrDisk) {
		t.Errorf("Get: %q, %v, %v", v, ok, err)
	}
	if _, _, err := s.Get(""); !errors.Is(err, api.ErrKey) {
		t.Errorf("Get of no key: %v", err)
	}
	d.Fail(0, 0)
	has(t, s, "a=1,b=2,c=3")
	write(t, s, "d=4")
	has(t, s, "a=1,b=2,c=3,d=4")
}

// TestFlipped: one bit of one file is turned: it is noticed, or does no harm.
func TestFlipped(t *testing.T) {
	for i, crash := range []bool{false, true, false} {
		r := rand.New(rand.NewSource(3))
		d := api.NewDisk(roomy)
		p := newPast(i == 2)
		s := open(t, d, api.Options{Memory: 12, Tables: 2})
		p.write(r, s, 22)
		if crash {
			d.Crash(99, 15)
		}
		p.check(t, open(t, d.Copy(), usual), p.safe)
		for _, name := range d.List() {
			n, _ := d.Size(name)
			for bit := range uint(8 * n) {
				c := d.Copy()
				c.Flip(name, bit)
				flipped(t, fmt.Sprintf("bit %d of %s", bit, name), c, p)
			}
		}
	}
}

// flipped tests the answers of a store over a disk of which a bit was turned.
func flipped(t *testing.T, what string, d *api.Disk, p *past) {
	t.Helper()
	s, err := levels.Open(d, api.Options{Memory: 32, Tables: 6})
	if err != nil {
		if s != nil || !errors.Is(err, api.ErrCorrupt) {
			t.Errorf("%s: Open: %v, %v", what, s, err)
		}
		return
	}
	flippedAnswers(t, what, s, p.all[len(p.all)-1])
	if err := s.Compact(); err != nil && !errors.Is(err, api.ErrCorrupt) {
		t.Errorf("%s: Compact: %v", what, err)
	}
	flippedAnswers(t, what+", behind Compact", s, p.all[len(p.all)-1])
}

// flippedAnswers tests that each answer is by the contents, or ErrCorrupt.
func flippedAnswers(t *testing.T, what string, s *levels.Store, c contents) {
	t.Helper()
	if l, err := s.Scan("", "", 0); !errors.Is(err, api.ErrCorrupt) && (!slices.Equal(l, c.scan("", "", 0)) || err != nil) {
		t.Errorf("%s: Scan: %v, %v", what, l, err)
	}
	for i := 0; i < 60; i += 4 {
		key := fmt.Sprint("k", i)
		want, set := c[key]
		if v, ok, err := s.Get(key); !errors.Is(err, api.ErrCorrupt) && (v != want || ok != set || err != nil) {
			t.Errorf("%s: Get(%q): %q, %v, %v", what, key, v, ok, err)
		}
	}
}

// TestForeign: files of other names are left alone; files that lead to nothing are taken away.
func TestForeign(t *testing.T) {
	d := api.NewDisk(roomy)
	for _, name := range []string{"", "a", "log", "table-x", "table-2", "state.new"} {
		d.Create(name)
		d.Append(name, []byte("bytes"))
	}
	s := open(t, d, usual)
	want := []string{"", "a", "log", "table-x"}
	if l := d.List(); !slices.Equal(l, want) {
		t.Errorf("files: %q, want %q", l, want)
	}
	write(t, s, "a=1,b=2,c=3,d=4", "e=5")
	has(t, open(t, d, usual), "a=1,b=2,c=3,d=4,e=5")
}

// TestNoState: a disk from which the state was taken is not taken for an empty one.
func TestNoState(t *testing.T) {
	d := api.NewDisk(roomy)
	s := open(t, d, api.Options{Memory: 1, Tables: 2})
	write(t, s, "a=1", "b=2", "c=3")
	s.Close()
	d.Remove("state")
	files := d.List()
	if s, err := levels.Open(d, usual); s != nil || !errors.Is(err, api.ErrMissing) {
		t.Errorf("Open: %v, %v", s, err)
	}
	if l := d.List(); !slices.Equal(l, files) {
		t.Errorf("files: %q, want %q", l, files)
	}
}

// TestAnyBytes: P1: over a disk with any names and bytes every call ends, and none panics.
func TestAnyBytes(t *testing.T) {
	r := rand.New(rand.NewSource(1))
	for range 3000 {
		d := api.NewDisk(r.Intn(5000))
		s := open(t, d, anyOptions(r))
		newPast(r.Intn(2) == 0).write(r, s, r.Intn(60))
		spoil(r, d)
		s, err := levels.Open(d, anyOptions(r))
		if (s == nil) != (err != nil) {
			t.Fatalf("Open: %v, %v", s, err)
		}
		if err != nil {
			continue
		}
		for range 3 {
			s.Write(anyBatch(r, 60), r.Intn(2) == 0)
			everyCall(s)
			for range s.All("", "") {
			}
		}
		s.Close()
	}
}

// spoil does what a store does not look for: bits are turned, files are gone, have each other's names, or other bytes.
func spoil(r *rand.Rand, d *api.Disk) {
	names := append(d.List(), "state", "log-1", "log-3", "table-2", "table-4")
	some := func() string { return names[r.Intn(len(names))] }
	for range 1 + r.Intn(3) {
		name := some()
		switch r.Intn(6) {
		case 0:
			d.Flip(name, uint(r.Intn(1e6)))
		case 1:
			d.Remove(name)
		case 2:
			d.Rename(name, some())
		case 3:
			d.Create(name)
			d.Append(name, []byte{0, 1, 2})
		case 4:
			d.Remove(name)
			d.Create(name)
			b := make([]byte, r.Intn(99))
			r.Read(b)
			d.Append(name, b)
		case 5:
			n, _ := d.Size(name)
			b, _ := d.ReadAt(name, 0, r.Intn(n+1))
			d.Remove(name)
			d.Create(name)
			d.Append(name, b)
		}
	}
}
