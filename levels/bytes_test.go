package levels_test

import (
	"errors"
	"fmt"
	"maps"
	"math"
	"math/rand"
	"slices"
	"strings"
	"testing"

	"levels/api"
	"levels/code"
	"levels/files"
	"levels/levels"
	"levels/logs"
	"levels/plain"
	"levels/rows"
	"levels/state"
	"levels/tables"
)

// ends opens stores over a disk with any bytes, and makes every call of each: it is enough that they end, and that the answers are errors of the document. It tells whether there was a store.
func ends(t *testing.T, r *rand.Rand, d *api.Disk) bool {
	t.Helper()
	opened := false
	for range 2 {
		s, err := levels.Open(d, anyOptions(r))
		if (s == nil) != (err != nil) || api.Tell(err) < 0 {
			t.Fatalf("Open: %v, %v", s, err)
		}
		if err != nil {
			return opened
		}
		opened = true
		for range 3 {
			s.Write(anyBatch(r, 60), r.Intn(2) == 0)
			for name, err := range everyCall(s) {
				if api.Tell(err) < 0 {
					t.Fatalf("%s: %v", name, err)
				}
			}
			s.GetAt(2, anyKey(r, 60))
			plain.Collect(s, "", "", math.MaxInt)
			plain.Later(s, "", "", api.Change{Key: anyKey(r, 60)})
		}
		if r.Intn(2) == 0 {
			s.Close()
		}
	}
	return opened
}

// TestForeign: P1: files of other names are left alone; files that lead to nothing are taken away.
func TestForeign(t *testing.T) {
	d := api.NewDisk(roomy)
	for _, name := range []string{"", "a", "log", "table-x", "table-2", "state.new"} {
		d.Create(name)
		d.Append(name, []byte("bytes"))
	}
	s := open(t, d, usual)
	want := []string{"", "a", "log", "table-x"}
	if l := d.List(); !slices.Equal(l, want) {
		t.Errorf("files: %q, want %q", l, want)
	}
	write(t, s, "a=1,b=2,c=3,d=4", "e=5")
	has(t, open(t, d, usual), "a=1,b=2,c=3,d=4,e=5")
}

// TestNoState: P14: a disk from which the state was taken is not taken for an empty one.
func TestNoState(t *testing.T) {
	d := api.NewDisk(roomy)
	s := open(t, d, api.Options{Memory: 1, Tables: 2})
	write(t, s, "a=1", "b=2", "c=3")
	s.Close()
	d.Remove("state")
	files := d.List()
	if s, err := levels.Open(d, usual); s != nil || !errors.Is(err, api.ErrMissing) {
		t.Errorf("Open: %v, %v", s, err)
	}
	if l := d.List(); !slices.Equal(l, files) {
		t.Errorf("files: %q, want %q", l, files)
	}
}

// put gives a file other bytes.
func put(d *api.Disk, name string, b []byte) {
	d.Remove(name)
	d.Create(name)
	d.Append(name, b)
}

// TestEveryFile: P14: each file is gone, cut off anywhere, longer, or another one's; what a store tells then is right nevertheless, of the first batches if the log is cut off, or it is told that something is wrong.
func TestEveryFile(t *testing.T) {
	d, p := closed(t, false)
	r := rand.New(rand.NewSource(1))
	for _, name := range d.List() {
		whole, _ := files.Read(d, name)
		other := map[string]func(c *api.Disk){"gone": func(c *api.Disk) { c.Remove(name) }}
		for n := range whole {
			other[fmt.Sprint("cut to ", n)] = func(c *api.Disk) { put(c, name, whole[:n]) }
		}
		for _, more := range []string{"\x00", "\xff", strings.Repeat("\x00", 12), strings.Repeat("\xff", 40), string(whole)} {
			other[fmt.Sprintf("longer by %d", len(more))] = func(c *api.Disk) { c.Append(name, []byte(more)) }
		}
		for _, from := range d.List() {
			other["the bytes of "+from] = func(c *api.Disk) {
				b, _ := files.Read(d, from)
				put(c, name, b)
			}
		}
		for _, what := range slices.Sorted(maps.Keys(other)) {
			c := d.Copy()
			other[what](c)
			s, err := levels.Open(c.Copy(), usual)
			if err == nil {
				l, scanErr := s.Scan("", "", 0)
				if err = scanErr; err == nil && prefix(p.all, l) < 0 {
					t.Errorf("%s, %s: %v", name, what, l)
				}
			}
			if n := api.Tell(err); n != api.OK && n != api.ErrCorrupt && n != api.ErrMissing {
				t.Errorf("%s, %s: %v", name, what, err)
			}
			ends(t, r, c)
		}
	}
}

// TestAnyBytes: P1, P14: over a disk with any names and bytes every call ends, and none panics.
func TestAnyBytes(t *testing.T) {
	r := rand.New(rand.NewSource(1))
	for range 3000 {
		d := api.NewDisk(r.Intn(5000))
		s := open(t, d, anyOptions(r))
		newPast(r.Intn(2) == 0).write(r, s, r.Intn(60))
		spoil(r, d)
		ends(t, r, d)
	}
}

// spoil does what a store does not look for: bits are turned, files are gone, have each other's names, or other bytes.
func spoil(r *rand.Rand, d *api.Disk) {
	names := append(d.List(), "state", "log-1", "log-3", "table-2", "table-4")
	some := func() string { return names[r.Intn(len(names))] }
	for range 1 + r.Intn(3) {
		name := some()
		switch r.Intn(6) {
		case 0:
			d.Flip(name, uint(r.Intn(1e6)))
		case 1:
			d.Remove(name)
		case 2:
			d.Rename(name, some())
		case 3:
			d.Create(name)
			d.Append(name, []byte{0, 1, 2})
		case 4:
			b := make([]byte, r.Intn(99))
			r.Read(b)
			put(d, name, b)
		case 5:
			b, _ := files.Read(d, name)
			put(d, name, b[:r.Intn(len(b)+1)])
		}
	}
}

// anyNumber is one of those at which numbers begin, end, or come together.
func anyNumber(r *rand.Rand) uint64 {
	switch r.Intn(6) {
	case 0:
		return uint64(r.Intn(3))
	case 1:
		return math.MaxUint64 - uint64(r.Intn(3))
	}
	return uint64(r.Intn(40))
}

// anyRow is entries that no store made: of any batches, and many of one key. No more than so many of one key are there.
func anyRow(r *rand.Rand, keys []string, n, most int) rows.List {
	var l rows.List
	seen := map[string]int{}
	for range n {
		e := rows.Entry{Key: keys[r.Intn(len(keys))], Batch: anyNumber(r), Deleted: r.Intn(3) == 0}
		if seen[e.Key]++; seen[e.Key] > most {
			continue
		}
		if !e.Deleted {
			e.Value = strings.Repeat("v", r.Intn(api.MaxValue+1))
		}
		l = l.With([]rows.Entry{e})
	}
	return l
}

// anyState puts tables of such entries on a disk, any number to each level, and a state that leads to them.
func anyState(t *testing.T, r *rand.Rand, d *api.Disk) state.State {
	t.Helper()
	number := uint64(2)
	if r.Intn(4) == 0 {
		number = math.MaxUint64 - uint64(r.Intn(30))
	}
	var st state.State
	for i := range st.Levels {
		for k := range r.Intn(9) {
			keys := []string{anyKey(r, 60)}
			for j := range 1 + r.Intn(30) {
				// Below level 0 no two tables may have a key.
				keys = append(keys, fmt.Sprintf("k%d%02d", k, j))
			}
			if i > 0 && r.Intn(40) > 0 {
				keys = keys[1:]
			}
			x := tables.New(anyRow(r, keys, 1+r.Intn(api.MaxCount), 14))
			if err := x.Write(d, number); err != nil {
				t.Fatal(err)
			}
			st.Levels[i] = append(st.Levels[i], x.Mark())
			number++
		}
	}
	st.Log, st.Next, st.Batches = number, number+1+uint64(r.Intn(2)), anyNumber(r)
	if r.Intn(8) == 0 {
		st.Log, st.Next = anyNumber(r), anyNumber(r)
	}
	if err := state.Save(d, st); err != nil {
		t.Fatal(err)
	}
	return st
}

// anyLog is records, of which some are cut off.
func anyLog(r *rand.Rand, first uint64) []byte {
	var b []byte
	keys := []string{"a", "k000", "k101", anyKey(r, 60)}
	for i := range uint64(r.Intn(6)) {
		l := anyRow(r, keys, 1+r.Intn(api.MaxChanges), 9)
		l[0].Batch = first + i
		b = append(b, logs.Record(l)...)
		if r.Intn(20) == 0 {
			b = b[:r.Intn(len(b))]
		}
	}
	return b
}

// TestFitting: P14: bytes that no store wrote, though all sums fit.
func TestFitting(t *testing.T) {
	opened := 0
	for seed := range int64(700) {
		r := rand.New(rand.NewSource(seed))
		d := api.NewDisk(200000)
		st := anyState(t, r, d)
		if r.Intn(2) == 0 {
			put(d, files.Log(st.Log), anyLog(r, st.Batches+1))
		}
		if r.Intn(4) == 0 {
			fill(d, 200000, r.Intn(3000))
		}
		if ends(t, r, d) {
			opened++
		}
	}
	if opened < 250 {
		t.Errorf("%d disks were taken: too few to tell", opened)
	}
}

// TestSealed: P14: any bytes with their sum behind them.
func TestSealed(t *testing.T) {
	r := rand.New(rand.NewSource(1))
	for range 3000 {
		d, _ := logAlone(t, false, 0)
		b := make([]byte, r.Intn(70))
		r.Read(b)
		for i := range b {
			b[i] &= byte(0xff >> (r.Intn(2) * 8)) // numbers are small, mostly
		}
		put(d, []string{"state", "log-1"}[r.Intn(2)], code.Seal(b))
		ends(t, r, d)
	}
}
