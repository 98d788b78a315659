package levels

import (
	"fmt"
	"math/rand"
	"slices"
	"sync"
	"testing"

	"levels/api"
	"levels/files"
	"levels/rows"
	"levels/tables"
)

// told tells what is wrong with what Shape tells of the tables, by what stands in their files.
func told(s *Store) error {
	shape, err := s.Shape()
	if err != nil || len(shape) != api.MaxLevels {
		return fmt.Errorf("Shape: %d levels, %v", len(shape), err)
	}
	for i, l := range s.levels {
		if len(shape[i]) != len(l) {
			return fmt.Errorf("Shape: level %d has %d tables, want %d", i, len(shape[i]), len(l))
		}
		for j, t := range l {
			opened, err := tables.Open(s.disk, t.Mark())
			if err != nil {
				return err
			}
			all, err := rows.Collect(opened.From(""))
			if err != nil {
				return err
			}
			want := api.Table{Name: files.Table(t.Mark().Number), First: all[0].Key, Last: all[len(all)-1].Key, Count: len(all)}
			if shape[i][j] != want {
				return fmt.Errorf("Shape: %v, want %v", shape[i][j], want)
			}
		}
	}
	return nil
}

// tidy tells what is wrong with the shape of the tables and the files on the disk.
func tidy(s *Store) error {
	used := []string{}
	for i, l := range s.levels {
		most := []int{s.options.Tables - 1, s.options.Tables, s.options.Tables, 1 << 30}[i]
		if len(l) > most {
			return fmt.Errorf("level %d has %d tables", i, len(l))
		}
		for j, t := range l {
			if t.Count() < 1 || t.Count() > api.MaxCount {
				return fmt.Errorf("%s has %d entries", t.Name(), t.Count())
			}
			if i > 0 && j > 0 && l[j-1].Last() >= t.First() {
				return fmt.Errorf("level %d: %s begins with %q, behind %q", i, t.Name(), t.First(), l[j-1].Last())
			}
			used = append(used, t.Name())
		}
	}
	if s.changes >= s.options.Memory {
		return fmt.Errorf("%d changes are in memory", s.changes)
	}
	if len(s.memory) != len(s.memory.Needed(s.moments())) {
		return fmt.Errorf("memory has %v, with snapshots at %v", s.memory, s.moments())
	}
	if s.logged {
		used = append(used, files.Log(s.log))
	}
	got := slices.DeleteFunc(s.disk.List(), func(name string) bool { return name == files.State })
	slices.Sort(used)
	if !slices.Equal(got, used) {
		return fmt.Errorf("files: %q, want %q", got, used)
	}
	return nil
}

// TestShape: the levels stay within their bounds, behind each Write and each Open, with snapshots too; a Get and a GetAt read little.
func TestShape(t *testing.T) {
	var most [api.MaxLevels]int
	for seed := range int64(12) {
		r := rand.New(rand.NewSource(seed))
		d := api.NewDisk(1 << 30)
		keys := []int{5, 300, 3000}[seed%3]
		for range 6 {
			s, err := Open(d, api.Options{Memory: 1 + r.Intn(api.MaxMemory), Tables: 2 + r.Intn(api.MaxTables-1)})
			if err != nil {
				t.Fatal(err)
			}
			for i := range 300 {
				if err := tidy(s); err != nil {
					t.Fatal(err)
				}
				if i%20 == 0 {
					if err := told(s); err != nil {
						t.Fatal(err)
					}
				}
				for i, l := range s.levels {
					most[i] = max(most[i], len(l))
				}
				var l []api.Change
				for range 1 + r.Intn(api.MaxChanges) {
					l = append(l, api.Change{Key: fmt.Sprint(r.Intn(keys)), Delete: r.Intn(5) == 0})
				}
				if err := s.Write(l, false); err != nil {
					t.Fatal(err)
				}
				if r.Intn(200) == 0 {
					if err := s.Compact(); err != nil || s.changes > 0 || len(s.memory) > 0 || s.logged {
						t.Fatalf("behind Compact: %v, memory has %v", err, s.memory)
					}
				}
				if seed%2 == 1 && r.Intn(3) == 0 {
					s.Snapshot()
					s.Release(1 + r.Intn(s.given+2))
				}
				readsLittle(t, s, fmt.Sprint(r.Intn(keys)))
			}
		}
	}
	if want := [api.MaxLevels]int{5, 6, 6, 10}; most[0] != want[0] || most[1] != want[1] || most[2] != want[2] || most[3] < want[3] {
		t.Errorf("the levels had at most %d tables, want %d: too few to tell", most, want)
	}
}

// readsLittle tests how much is read for a key, now and in each snapshot.
func readsLittle(t *testing.T, s *Store, key string) {
	t.Helper()
	s.disk.Counts()
	count := func(what string) {
		if reads, bytes := s.disk.Counts(); reads > len(s.levels[0])+api.MaxLevels-1 || bytes > api.MaxBlock {
			t.Fatalf("%s: %d reads of up to %d bytes", what, reads, bytes)
		}
	}
	s.Get(key)
	count("Get")
	for n := range s.snaps {
		s.GetAt(n, key)
		count("GetAt")
	}
}

// TestReleased: what was kept for a snapshot is gone when it is released, from memory at once and from tables when they are merged.
func TestReleased(t *testing.T) {
	for _, memory := range []int{1, 20} {
		s, err := Open(api.NewDisk(1<<30), api.Options{Memory: memory, Tables: 2})
		if err != nil {
			t.Fatal(err)
		}
		put := func(key string, n int) {
			for range n {
				if err := s.Write([]api.Change{{Key: key}}, false); err != nil {
					t.Fatal(err)
				}
			}
		}
		has := func(want int) {
			t.Helper()
			all := s.levels.Tables()
			if n := len(s.memory) + all.Count(); n != want {
				t.Errorf("Memory %d: %d entries, want %d", memory, n, want)
			}
		}
		for i := range api.MaxSnaps {
			put("a", 2)
			s.Snapshot()
			has(i + 1)
		}
		put("a", 2)
		has(api.MaxSnaps + 1)
		for i := range api.MaxSnaps {
			s.Release(i + 1)
			put("a", 2)
			has(api.MaxSnaps - i)
		}
	}
}

// TestForgotten: of keys that are all deleted nothing is left in the last merge.
func TestForgotten(t *testing.T) {
	s, err := Open(api.NewDisk(1<<30), api.Options{Memory: 1, Tables: 2})
	if err != nil {
		t.Fatal(err)
	}
	for _, c := range []api.Change{{Key: "a"}, {Key: "a", Delete: true}} {
		if err := s.Write([]api.Change{c}, false); err != nil {
			t.Fatal(err)
		}
	}
	if !s.levels.Empty(0) {
		t.Errorf("tables are left: %v", s.levels)
	}
}

// TestTornOnce: behind a torn record nothing is written, but the log behind that is used again.
func TestTornOnce(t *testing.T) {
	d := api.NewDisk(1 << 30)
	o := api.Options{Memory: 9, Tables: 2}
	put := func(s *Store, key string) {
		if err := s.Write([]api.Change{{Key: key}}, false); err != nil {
			t.Fatal(err)
		}
	}
	s, _ := Open(d, o)
	put(s, "a")
	if err := s.Close(); err != nil {
		t.Fatal(err)
	}
	s, _ = Open(d, o)
	put(s, "b")
	d.Crash(0, 5)
	s, err := Open(d, o)
	if err != nil || !s.torn || s.changes != 1 {
		t.Fatalf("%v: torn %v, %d changes", err, s.torn, s.changes)
	}
	put(s, "c")
	put(s, "d")
	if s.torn || s.changes != 1 || len(s.levels[0]) != 1 {
		t.Errorf("torn %v, %d changes, %d tables", s.torn, s.changes, len(s.levels[0]))
	}
	if l, err := s.Scan("", "", 0); len(l) != 3 || err != nil {
		t.Errorf("the store has %v, %v", l, err)
	}
}

// TestInOrder: keys that come in order fill their tables, and old tables stay as they are.
func TestInOrder(t *testing.T) {
	s, err := Open(api.NewDisk(1<<30), api.Options{Memory: 3, Tables: 2})
	if err != nil {
		t.Fatal(err)
	}
	const n = 4000
	stayed := 0
	for i := range n {
		was := s.levels[tables.Deepest]
		if err := s.Write([]api.Change{{Key: fmt.Sprintf("%08d", i)}}, false); err != nil {
			t.Fatal(err)
		}
		if now := s.levels[tables.Deepest]; len(was) > 0 && len(now) > len(was) && slices.Equal(was, now[:len(was)]) {
			stayed++
		}
	}
	last := s.levels[tables.Deepest]
	if len(last) > n/50 || stayed == 0 {
		t.Errorf("%d tables with %d entries; %d times the old ones stayed", len(last), last.Count(), stayed)
	}
}

// TestShapeTogether: P8: what Shape tells is of one moment, while others write and compact: whatever makes a table below level 0 empties that, so the tables there are always the newest.
func TestShapeTogether(t *testing.T) {
	s, err := Open(api.NewDisk(1<<30), api.Options{Memory: 1, Tables: 2})
	if err != nil {
		t.Fatal(err)
	}
	end := make(chan struct{})
	var w sync.WaitGroup
	for range 4 {
		w.Add(1)
		go func() {
			defer w.Done()
			for !ended(end) {
				if err := oneMoment(s); err != nil {
					t.Error(err)
					return
				}
			}
		}()
	}
	for i := range 3000 {
		if err := s.Write([]api.Change{{Key: fmt.Sprint(i % 3)}}, false); err != nil {
			t.Error(err)
		}
		if i%4 == 0 {
			if err := s.Compact(); err != nil {
				t.Error(err)
			}
		}
	}
	close(end)
	w.Wait()
}

// ended tells whether a channel is closed.
func ended(end chan struct{}) bool {
	select {
	case <-end:
		return true
	default:
		return false
	}
}

// oneMoment tells what is wrong with the order in which the tables were made that Shape tells.
func oneMoment(s *Store) error {
	l, err := s.Shape()
	if err != nil {
		return err
	}
	newest := uint64(0)
	for _, x := range slices.Concat(l[1:]...) {
		n, _ := files.Number(x.Name)
		newest = max(newest, n)
	}
	for _, x := range l[0] {
		if n, _ := files.Number(x.Name); n <= newest {
			return fmt.Errorf("level 0 has %s, and the levels below have a newer table: %v", x.Name, l)
		}
	}
	return nil
}
