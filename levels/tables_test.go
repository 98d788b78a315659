package levels_test

import (
	"errors"
	"fmt"
	"math/rand"
	"reflect"
	"slices"
	"testing"
	"unsafe"

	"levels/api"
	"levels/levels"
)

// shape is what Shape told, and what it adds up to.
type shape struct {
	levels          [][]api.Table
	tables, entries int
	filled          int // levels that have tables
}

// shaped tests what P9 says of the tables and the files, and gives the shape.
func shaped(t *testing.T, d *api.Disk, s *levels.Store, o api.Options) shape {
	t.Helper()
	l, err := s.Shape()
	if err != nil || len(l) != api.MaxLevels {
		t.Fatalf("Shape: %d lists, %v", len(l), err)
	}
	if len(l[0]) >= o.Tables || len(l[1]) > o.Tables || len(l[2]) > o.Tables {
		t.Fatalf("%v: %d, %d, %d tables in the first levels", o, len(l[0]), len(l[1]), len(l[2]))
	}
	sum, names, seen := shape{levels: l}, d.List(), map[string]int{}
	for i, list := range l {
		if len(list) > 0 {
			sum.filled++
		}
		for k, x := range list {
			if x.Count < 1 || x.Count > api.MaxCount || x.First == "" || x.First > x.Last || x.Count == 1 && x.First != x.Last {
				t.Fatalf("level %d has %+v", i, x)
			}
			if i > 0 && k > 0 && x.First <= list[k-1].Last {
				t.Fatalf("level %d has %+v behind %+v", i, x, list[k-1])
			}
			if seen[x.Name]++; seen[x.Name] > 1 || !slices.Contains(names, x.Name) {
				t.Fatalf("level %d has %+v, and the disk %q", i, x, names)
			}
			sum.tables++
			sum.entries += x.Count
		}
	}
	if len(names) > sum.tables+api.MaxOthers {
		t.Fatalf("%d tables, and the files %q", sum.tables, names)
	}
	return sum
}

// TestShapeOfNothing: P9: a store without tables has all its levels.
func TestShapeOfNothing(t *testing.T) {
	d := api.NewDisk(roomy)
	s := open(t, d, usual)
	write(t, s, "")
	for range 3 {
		if x := shaped(t, d, s, usual); x.tables != 0 {
			t.Errorf("%v", x.levels)
		}
		write(t, s, "a=1")
	}
}

// TestShapeFirst: P9: what the first tables are: values and deletions are entries, and a key's older value that a snapshot has.
func TestShapeFirst(t *testing.T) {
	for _, x := range []struct {
		before, behind string // a snapshot lies between
		want           api.Table
	}{
		{"", "c=1,a=2,b=3", api.Table{First: "a", Last: "c", Count: 3}},
		{"", "b=1,-a,-c", api.Table{First: "a", Last: "c", Count: 3}},
		{"", "a=1,a=2,-a", api.Table{First: "a", Last: "a", Count: 1}},
		{"a=1", "a=2,b=3", api.Table{First: "a", Last: "b", Count: 3}},
		{"a=1", "-a,a=3", api.Table{First: "a", Last: "a", Count: 2}},
		{"", "\xff=,\x00=,\xff\xff\xff\xff\xff\xff\xff\xff=", api.Table{First: "\x00", Last: "\xff\xff\xff\xff\xff\xff\xff\xff", Count: 3}},
	} {
		d := api.NewDisk(roomy)
		o := api.Options{Memory: 3, Tables: 2}
		s := open(t, d, o)
		write(t, s, x.before)
		take(t, s, 1)
		write(t, s, x.behind)
		got := shaped(t, d, s, o)
		if got.tables != 1 || len(got.levels[0]) != 1 {
			t.Errorf("%q, %q: %v", x.before, x.behind, got.levels)
			continue
		}
		if x.want.Name = got.levels[0][0].Name; got.levels[0][0] != x.want {
			t.Errorf("%q, %q: %+v, want %+v", x.before, x.behind, got.levels[0][0], x.want)
		}
	}
}

// TestShapeMemory: P9: so many changes as Memory tells become a table, and no sooner; each counts, whatever its key.
func TestShapeMemory(t *testing.T) {
	for memory := 1; memory <= api.MaxMemory; memory++ {
		for size := 1; size <= api.MaxChanges; size++ {
			o := api.Options{Memory: memory, Tables: 6}
			d, same := api.NewDisk(roomy), api.NewDisk(roomy)
			s, one := open(t, d, o), open(t, same, o)
			for done := size; done <= 5*api.MaxMemory; done += size {
				var others, again []api.Change
				for i := range size {
					others = append(others, api.Change{Key: fmt.Sprint(done + i)})
					again = append(again, api.Change{Key: "a"})
				}
				if err := errors.Join(s.Write(others, done%3 == 0), one.Write(again, done%3 == 0)); err != nil {
					t.Fatal(err)
				}
				s.Write(batch("=1"), false) // is refused, and is no change
				write(t, s, "")
				x := shaped(t, d, s, o)
				if left := done - x.entries; left < 0 || left >= memory || done < memory && x.tables > 0 {
					t.Fatalf("%v: %d changes were done, and %d are in tables", o, done, x.entries)
				}
				if y := shaped(t, same, one, o); done < memory && y.tables > 0 || done >= memory && y.tables == 0 {
					t.Fatalf("%v: one key was changed %d times: %v", o, done, y.levels)
				}
			}
		}
	}
}

// TestShapeBounds: P9: each level comes to its bound, and not above it; the last one has no bound, and the tables come from 1 entry to nearly MaxCount.
func TestShapeBounds(t *testing.T) {
	for n := 2; n <= api.MaxTables; n++ {
		o := api.Options{Memory: api.MaxMemory, Tables: n}
		d := api.NewDisk(roomy)
		s := open(t, d, o)
		r := rand.New(rand.NewSource(int64(n)))
		var most [api.MaxLevels]int
		count := 0
		for i := range 900 {
			var l []api.Change
			for j := range api.MaxChanges {
				l = append(l, api.Change{Key: fmt.Sprintf("%03d%04d", r.Intn(1000), 8*i+j)})
			}
			if err := s.Write(l, false); err != nil {
				t.Fatal(err)
			}
			for k, list := range shaped(t, d, s, o).levels {
				most[k] = max(most[k], len(list))
				for _, x := range list {
					count = max(count, x.Count)
				}
			}
		}
		if most[0] != n-1 || most[1] != n || most[2] != n || most[3] <= n || count < api.MaxCount-api.MaxSnaps {
			t.Errorf("Tables %d: at most %d tables, and %d entries in one", n, most, count)
		}
	}
}

// TestShapeAnew: P3, P9: a store that is opened with narrower options is within them at once.
func TestShapeAnew(t *testing.T) {
	wide := api.Options{Memory: api.MaxMemory, Tables: api.MaxTables}
	for done := 0; done < 7000; done += 463 {
		d := api.NewDisk(roomy)
		s := open(t, d, wide)
		r := rand.New(rand.NewSource(int64(done)))
		for i := range done {
			if err := s.Write([]api.Change{{Key: fmt.Sprintf("%03d%05d", r.Intn(1000), i)}}, false); err != nil {
				t.Fatal(err)
			}
		}
		if done%2 == 0 {
			s.Close()
		}
		for _, o := range []api.Options{wide, {Memory: 32, Tables: 3}, {Memory: 7, Tables: 3}, {Memory: 7, Tables: 2}, {Memory: 1, Tables: 2}, wide} {
			s = open(t, d, o)
			x := shaped(t, d, s, o)
			if left := done - x.entries; left < 0 || left >= o.Memory {
				t.Errorf("%v: %d changes were done, and %d are in tables", o, done, x.entries)
			}
			if l, err := s.Scan("", "", 0); len(l) != done || err != nil {
				t.Errorf("%v: %d pairs, %v, want %d", o, len(l), err, done)
			}
		}
	}
}

// TestShapeFresh: P2: what Shape tells is nobody else's.
func TestShapeFresh(t *testing.T) {
	for tables := 2; tables <= 3; tables++ {
		s := open(t, api.NewDisk(roomy), api.Options{Memory: 2, Tables: tables})
		write(t, s, "aa=1,bb=2", "cc=3,dd=4")
		tell := func() string {
			l, err := s.Shape()
			return fmt.Sprint(l, err)
		}
		want := tell()
		l, _ := s.Shape()
		for _, list := range l {
			for _, x := range list {
				for _, text := range []string{x.Name, x.First, x.Last} {
					*unsafe.StringData(text) = 'x'
				}
			}
			clear(list)
			_ = append(list, api.Table{Name: "x"})
		}
		clear(l)
		if got := tell(); got != want {
			t.Errorf("Shape: %s, want %s", got, want)
		}
		has(t, s, "aa=1,bb=2,cc=3,dd=4")
	}
}

// TestShapeAsks: Shape asks nothing of the disk, and changes nothing.
func TestShapeAsks(t *testing.T) {
	d := api.NewDisk(roomy)
	s := open(t, d, usual)
	write(t, s, "a=1,b=2,c=3,d=4", "e=5")
	want, _ := s.Shape()
	d.Fail(0, 1)
	if l, err := s.Shape(); !reflect.DeepEqual(l, want) || err != nil {
		t.Errorf("Shape: %v, %v, want %v", l, err, want)
	}
	d.Fail(0, 0)
	has(t, s, "a=1,b=2,c=3,d=4,e=5")
}

// reads tests that Get, and GetAt of each of these snapshots, read no more often and no more bytes than P10 says.
func reads(t *testing.T, d *api.Disk, s *levels.Store, x shape, key string, snaps []int) {
	t.Helper()
	may := len(x.levels[0])
	for _, list := range x.levels[1:] {
		may += min(1, len(list))
	}
	look := func(what string, err error) {
		if n, most := d.Counts(); n > may || most > api.MaxBlock || err != nil {
			t.Fatalf("%s(%q): %d reads (%d may be) of up to %d bytes, %v", what, key, n, may, most, err)
		}
	}
	d.Counts()
	_, _, err := s.Get(key)
	look("Get", err)
	for _, n := range snaps {
		_, _, err := s.GetAt(n, key)
		look(fmt.Sprint("GetAt ", n), err)
	}
}

// TestReads: P10: how often and how much is read, with the longest keys and values, and with as many values of each key as snapshots can hold.
func TestReads(t *testing.T) {
	for _, o := range []api.Options{{Memory: 1, Tables: 2}, {Memory: 5, Tables: 3}, {Memory: 32, Tables: 6}} {
		d := api.NewDisk(roomy)
		s := open(t, d, o)
		var snaps []int
		for round := range api.MaxSnaps + 2 {
			for i := range 120 {
				l := []api.Change{{Key: fmt.Sprintf("key%05d", 2*i), Value: fmt.Sprintf("value %10d", round), Delete: i%9 == round}}
				if err := s.Write(l, false); err != nil {
					t.Fatal(err)
				}
			}
			if round == 3 {
				if err := s.Compact(); err != nil {
					t.Fatal(err)
				}
			}
			x := shaped(t, d, s, o)
			for i := range 250 {
				reads(t, d, s, x, fmt.Sprintf("key%05d", i), snaps)
			}
			if round < api.MaxSnaps {
				take(t, s, round+1)
				snaps = append(snaps, round+1)
			}
		}
	}
}

// TestTablesModel: P9, P10, and P3 to P6 meanwhile: tables come and go by all that makes them, in stores of many options.
func TestTablesModel(t *testing.T) {
	for seed := range int64(40) {
		r := rand.New(rand.NewSource(seed))
		d := api.NewDisk(roomy)
		keys := []int{3, 60, 700}[seed%3]
		o := anyOptions(r)
		s := open(t, d, o)
		c, h := contents{}, held{}
		for range 250 {
			l := anyBatch(r, keys)
			if err := s.Write(l, r.Intn(3) == 0); err != nil {
				t.Fatal(err)
			}
			c = c.with(l)
			switch r.Intn(25) {
			case 0:
				if n, err := s.Snapshot(); err == nil {
					h[n] = c
				}
			case 1:
				for _, n := range h.numbers() {
					if err := s.Release(n); err != nil {
						t.Fatal(err)
					}
					delete(h, n)
				}
			case 2:
				if err := s.Compact(); err != nil {
					t.Fatal(err)
				}
				if x := shaped(t, d, s, o); x.entries < len(c) || x.filled > 1 || len(h) == 0 && x.entries != len(c) {
					t.Fatalf("behind Compact: %d entries for %d keys and %d snapshots: %v", x.entries, len(c), len(h), x.levels)
				}
			case 3:
				if r.Intn(2) == 0 {
					s.Close()
				}
				o, h = anyOptions(r), held{}
				s = open(t, d, o)
			}
			x := shaped(t, d, s, o)
			if len(c) > x.entries+o.Memory-1 {
				t.Fatalf("%v: %d keys, and %d entries in tables", o, len(c), x.entries)
			}
			reader{s.Get, s.Scan}.agree(t, r, c, keys)
			h.agree(t, r, s, keys)
			reads(t, d, s, x, anyKey(r, keys), h.numbers())
		}
	}
}
