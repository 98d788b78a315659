package levels_test

import (
	"errors"
	"fmt"
	"math"
	"math/rand"
	"reflect"
	"slices"
	"sync"
	"testing"

	"levels/api"
	"levels/levels"
)

// compact compacts where that must go well.
func compact(t *testing.T, s *levels.Store) {
	t.Helper()
	if err := s.Compact(); err != nil {
		t.Fatalf("Compact: %v", err)
	}
}

// compacted compacts, and tests that so many entries are left, in one level.
func compacted(t *testing.T, d *api.Disk, s *levels.Store, o api.Options, want int) {
	t.Helper()
	compact(t, s)
	if x := shaped(t, d, s, o); x.entries != want || x.filled != min(1, want) {
		t.Fatalf("%v: behind Compact %d entries in %d levels, want %d: %v", o, x.entries, x.filled, want, x.levels)
	}
}

// TestCompact: P10: what is left is one entry for each key, in one level; and it is the contents, for the next stores too.
func TestCompact(t *testing.T) {
	for _, keys := range []int{1, 2, 95, 96, 97, 99, 100, 101, 192, 193, 200, 201, 1500} {
		for _, o := range []api.Options{{Memory: 1, Tables: 2}, {Memory: 4, Tables: 3}, {Memory: 32, Tables: 6}} {
			d := api.NewDisk(roomy)
			s := open(t, d, o)
			c := contents{}
			for i := range 2*keys + keys/3 {
				l := []api.Change{{Key: fmt.Sprint(i * 7 % keys), Value: fmt.Sprint(i), Delete: i >= 2*keys && i%2 == 0}}
				if err := s.Write(l, false); err != nil {
					t.Fatal(err)
				}
				c = c.with(l)
			}
			compacted(t, d, s, o, len(c))
			if l, err := s.Scan("", "", 0); !slices.Equal(l, c.scan("", "", 0)) || err != nil {
				t.Fatalf("%d keys: %v, %v", keys, l, err)
			}
			want, _ := s.Shape()
			d.Crash(0, 0)
			for _, other := range []api.Options{{Memory: 1, Tables: 2}, {Memory: 32, Tables: 6}} {
				s = open(t, d, other)
				if l, err := s.Shape(); !reflect.DeepEqual(l, want) || err != nil {
					t.Errorf("%d keys, opened anew: %v, %v, want %v", keys, l, err, want)
				}
				if l, err := s.Scan("", "", 0); !slices.Equal(l, c.scan("", "", 0)) || err != nil {
					t.Fatalf("%d keys, opened anew: %v, %v", keys, l, err)
				}
			}
		}
	}
}

// TestCompactNothing: P10: no contents are no tables; a store that did nothing needs no room for that, and no files.
func TestCompactNothing(t *testing.T) {
	d := api.NewDisk(0)
	s := open(t, d, usual)
	compacted(t, d, s, usual, 0)
	write(t, s, "")
	compacted(t, d, s, usual, 0)
	if l := d.List(); len(l) > 0 {
		t.Errorf("files: %q", l)
	}
	for memory := 1; memory <= 9; memory++ {
		d, o := api.NewDisk(roomy), api.Options{Memory: memory, Tables: 2}
		s := open(t, d, o)
		for range 3 {
			write(t, s, "-x", "a=1,b=2", "c=3", "-a,-b", "-c")
			compacted(t, d, s, o, 0)
			has(t, s, "")
			s.Close()
			s = open(t, d, o)
			has(t, s, "")
		}
	}
}

// TestCompactMemory: P10: no change is in memory alone, however few there are, and with a snapshot too.
func TestCompactMemory(t *testing.T) {
	for _, snaps := range []int{0, 1} {
		d, o := api.NewDisk(roomy), api.Options{Memory: 32, Tables: 6}
		s := open(t, d, o)
		for i := range snaps {
			take(t, s, i+1)
		}
		for i := range 30 {
			write(t, s, fmt.Sprintf("%02d=1", i))
			compacted(t, d, s, o, i+1)
			c := d.Copy()
			for _, name := range c.List() {
				// What is in a table does not hang on a log.
				if name[:3] == "log" {
					c.Remove(name)
				}
			}
			if l, err := open(t, c, o).Scan("", "", 0); len(l) != i+1 || err != nil {
				t.Fatalf("%d snapshots: %v, %v, want %d pairs", snaps, l, err, i+1)
			}
		}
	}
}

// TestCompactKeeps: P6, P10: what a snapshot has stays as long as it is not released, and no longer.
func TestCompactKeeps(t *testing.T) {
	for memory := 1; memory <= 12; memory++ {
		d, o := api.NewDisk(roomy), api.Options{Memory: memory, Tables: 2}
		s := open(t, d, o)
		take(t, s, 1)
		write(t, s, "a=1,b=1")
		compacted(t, d, s, o, 2)
		take(t, s, 2)
		write(t, s, "a=2,c=2", "a=3")
		compacted(t, d, s, o, 4)
		take(t, s, 3)
		write(t, s, "-a,-b,-c")
		for range 2 {
			compacted(t, d, s, o, 7)
			hasAt(t, s, 1, "")
			hasAt(t, s, 2, "a=1,b=1")
			hasAt(t, s, 3, "a=3,b=1,c=2")
			has(t, s, "")
		}
		for _, x := range []struct{ n, want int }{{2, 6}, {1, 6}, {3, 0}} {
			if err := s.Release(x.n); err != nil {
				t.Fatal(err)
			}
			compacted(t, d, s, o, x.want)
			has(t, s, "")
		}
		noSnap(t, s, 3)
		write(t, s, "a=4")
		compacted(t, d, s, o, 1)
		has(t, s, "a=4")
	}
}

// TestCompactForgotten: P10: the snapshots of the store ahead of this one keep nothing.
func TestCompactForgotten(t *testing.T) {
	for _, closes := range []bool{false, true} {
		d := api.NewDisk(roomy)
		s := open(t, d, usual)
		for i := range api.MaxSnaps {
			write(t, s, "a=1,b=2,c=3", "-b")
			take(t, s, i+1)
		}
		compact(t, s)
		if closes {
			s.Close()
		}
		s = open(t, d, usual)
		compacted(t, d, s, usual, 2)
		has(t, s, "a=1,c=3")
	}
}

// fill takes all room of a disk but so many bytes.
func fill(d *api.Disk, room, left int) {
	used := 0
	for _, name := range d.List() {
		n, _ := d.Size(name)
		used += n
	}
	d.Create("full")
	d.Append("full", make([]byte, room-used-left))
}

// TestCompactAgain: tables that have their least form already stay, and need no room.
func TestCompactAgain(t *testing.T) {
	const room = 5000
	d := api.NewDisk(room)
	s := open(t, d, usual)
	write(t, s, "a=1,b=2,c=3,-d", "e=5")
	compact(t, s)
	s.Close()
	fill(d, room, 0)
	s = open(t, d, usual)
	was := d.List()
	for range 3 {
		compacted(t, d, s, usual, 4)
		if l := d.List(); !slices.Equal(l, was) {
			t.Errorf("files: %q, want %q", l, was)
		}
	}
	has(t, s, "a=1,b=2,c=3,e=5")
	if err := s.Write(batch("f=6"), false); !errors.Is(err, api.ErrRoom) {
		t.Errorf("Write: %v; the disk is not full", err)
	}
}

// TestCompactSafe: P11: all that was done ahead of a Compact is there behind a crash, whatever the crash takes of what came later.
func TestCompactSafe(t *testing.T) {
	for _, memory := range []int{1, 3, 32} {
		for dir := range uint(6) {
			for tail := range uint(40) {
				d := api.NewDisk(roomy)
				s := open(t, d, api.Options{Memory: memory, Tables: 2})
				write(t, s, "a=1", "b=2", "-a")
				compact(t, s)
				if l := afterCrash(t, d, dir, tail); l != "b=2" {
					t.Errorf("Memory %d, Crash(%d, %d): %q", memory, dir, tail, l)
				}
				s = open(t, d, api.Options{Memory: memory, Tables: 2})
				write(t, s, "c=3")
				compact(t, s)
				write(t, s, "b=4,d=5", "-c")
				if l := afterCrash(t, d, dir, tail); l != "b=2,c=3" && l != "b=4,c=3,d=5" && l != "b=4,d=5" {
					t.Errorf("Memory %d, Crash(%d, %d): %q", memory, dir, tail, l)
				}
			}
		}
	}
}

// afterCrash is what the store behind a crash has.
func afterCrash(t *testing.T, d *api.Disk, dir, tail uint) string {
	t.Helper()
	d.Crash(dir, tail)
	l, err := open(t, d, usual).Scan("", "", 0)
	if err != nil {
		t.Fatal(err)
	}
	return tell(l)
}

// readyToCompact is a store with tables in several levels and changes in memory, of which the last ones are not safe.
func readyToCompact(t *testing.T, d *api.Disk, seed int64) (*levels.Store, *past) {
	t.Helper()
	r := rand.New(rand.NewSource(seed))
	s := open(t, d, api.Options{Memory: 9, Tables: 2 + int(seed)})
	p := newPast(seed%2 == 1)
	if err := p.write(r, s, 60); err != nil {
		t.Fatal(err)
	}
	for i := range 3 {
		l := []api.Change{{Key: fmt.Sprint("new", i)}}
		if err := s.Write(l, false); err != nil {
			t.Fatal(err)
		}
		p.all = append(p.all, p.all[len(p.all)-1].with(l))
	}
	return s, p
}

// TestCompactFails: P12: an operation fails in Compact, and no crash comes: the store answers that from then on, and the next one has all that was done.
func TestCompactFails(t *testing.T) {
	for seed := range int64(4) {
		failed := 0
		for _, times := range []int{1, 2, math.MaxInt} {
			for after := 0; ; after++ {
				d := api.NewDisk(roomy)
				s, p := readyToCompact(t, d, seed)
				d.Fail(after, times)
				err := s.Compact()
				if err == nil {
					if times == 1 && !failsYet(d, after) {
						t.Errorf("behind %d operations the disk failed, and Compact did not answer that", after)
					}
					break
				}
				d.Fail(0, 0)
				failed++
				if !errors.Is(err, api.ErrDisk) {
					t.Fatalf("Compact: %v", err)
				}
				everyCallAnswers(t, s, api.ErrDisk)
				if err := s.Close(); !errors.Is(err, api.ErrDisk) {
					t.Errorf("Close: %v", err)
				}
				if err := s.Close(); !errors.Is(err, api.ErrClosed) {
					t.Errorf("Close again: %v", err)
				}
				everyCallAnswers(t, s, api.ErrClosed)
				s = open(t, d, usual)
				p.check(t, s, len(p.all)-1)
				shaped(t, d, s, usual)
				compacted(t, d, s, usual, len(p.all[len(p.all)-1]))
				d.Crash(0, 0) // what the Compact that failed had done already must be safe by this one
				p.check(t, open(t, d, usual), len(p.all)-1)
			}
		}
		if failed < 30 {
			t.Errorf("Compact failed %d times: too few to tell", failed)
		}
	}
}

// TestCompactCrashes: P11: a crash within a Compact, at each of its operations, with each outcome for the names.
func TestCompactCrashes(t *testing.T) {
	for seed := range int64(4) {
		for after := 0; ; after++ {
			ended := false
			for dir := range uint(9) {
				for _, tail := range []uint{0, 1, 13, 30} {
					d := api.NewDisk(roomy)
					s, p := readyToCompact(t, d, seed)
					d.Fail(after, math.MaxInt)
					least := p.safe
					if err := s.Compact(); err == nil {
						ended, least = true, len(p.all)-1
					} else if !errors.Is(err, api.ErrDisk) {
						t.Fatalf("Compact: %v", err)
					}
					d.Crash(dir, tail)
					s = open(t, d, usual)
					p.check(t, s, least)
					shaped(t, d, s, usual)
				}
			}
			if ended {
				break
			}
		}
	}
}

// TestCompactRoom: P12: a disk that is too full for Compact: the next store has all that was done, and nothing is left of the attempt.
func TestCompactRoom(t *testing.T) {
	const room = 100000
	o := api.Options{Memory: 9, Tables: 4}
	for left := 0; ; left += 23 {
		d := api.NewDisk(room)
		s, p := readyToCompact(t, d, 2)
		s.Close()
		fill(d, room, left)
		s = open(t, d, o)
		err := s.Compact()
		if err == nil {
			if left < 1000 {
				t.Errorf("%d bytes are room enough: too few to tell", left)
			}
			break
		}
		if !errors.Is(err, api.ErrRoom) {
			t.Fatalf("Compact: %v", err)
		}
		everyCallAnswers(t, s, api.ErrRoom)
		if err := s.Close(); !errors.Is(err, api.ErrRoom) {
			t.Errorf("Close: %v", err)
		}
		s = open(t, d, o)
		p.check(t, s, len(p.all)-1)
		shaped(t, d, s, o)
	}
}

// TestFailedFresh: P2, P12: the error of a store that failed is the same each time, whatever is done to the one that came out.
func TestFailedFresh(t *testing.T) {
	for after := range 3 {
		d := api.NewDisk(roomy)
		s := open(t, d, api.Options{Memory: 1, Tables: 2})
		write(t, s, "a=1")
		d.Fail(after, 1)
		first := s.Compact()
		var f *api.FileError
		if !errors.As(first, &f) || f.Name == "" || f.Err != api.ErrDisk {
			t.Fatalf("Compact: %v", first)
		}
		want := *f
		answers := []error{first}
		for _, err := range everyCall(s) {
			answers = append(answers, err)
		}
		answers = append(answers, s.Close())
		for _, err := range answers {
			if !errors.As(err, &f) || *f != want {
				t.Errorf("%v, want %v", err, first)
			}
			*f = api.FileError{}
		}
	}
}

// TestCompactTogether: P8: Compact and Shape by several goroutines, while others write, read and hold snapshots.
func TestCompactTogether(t *testing.T) {
	o := api.Options{Memory: 5, Tables: 2}
	d := api.NewDisk(roomy)
	s := open(t, d, o)
	write(t, s, "a=000,b=000,c=000")
	var w sync.WaitGroup
	end := make(chan struct{})
	for _, look := range []func(){
		func() { compact(t, s) },
		func() { compact(t, s) },
		func() { byScan(t, s) },
		func() { byAll(t, s) },
		func() { withinBounds(t, s, o) },
		func() { snapshotStays(t, s) },
	} {
		w.Add(1)
		go func() {
			defer w.Done()
			for {
				select {
				case <-end:
					return
				default:
					look()
				}
			}
		}()
	}
	for i := range 300 {
		write(t, s, fmt.Sprintf("a=%03d,b=%03d,c=%03d", i, i, i))
	}
	close(end)
	w.Wait()
	compacted(t, d, s, o, 3)
	has(t, s, "a=299,b=299,c=299")
}

// withinBounds tests what Shape tells while others are at work.
func withinBounds(t *testing.T, s *levels.Store, o api.Options) {
	l, err := s.Shape()
	if err != nil || len(l) != api.MaxLevels || len(l[0]) >= o.Tables || len(l[1]) > o.Tables || len(l[2]) > o.Tables {
		t.Errorf("Shape: %v, %v", l, err)
	}
}

// snapshotStays tests that a snapshot is of one moment, and stays so.
func snapshotStays(t *testing.T, s *levels.Store) {
	n, err := s.Snapshot()
	if err != nil {
		t.Errorf("Snapshot: %v", err)
		return
	}
	if a, b := atOneMoment(t, s, n), atOneMoment(t, s, n); a != b {
		t.Errorf("snapshot %d has %q, and then %q", n, a, b)
	}
	if err := s.Release(n); err != nil {
		t.Errorf("Release: %v", err)
	}
}
