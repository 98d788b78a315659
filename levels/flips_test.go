package levels_test

import (
	"errors"
	"fmt"
	"maps"
	"math"
	"math/rand"
	"slices"
	"testing"

	"levels/api"
	"levels/levels"
	"levels/plain"
)

// closed is a disk whose last store was closed.
func closed(t *testing.T, snaps bool) (*api.Disk, *past) {
	t.Helper()
	r := rand.New(rand.NewSource(3))
	d, p := api.NewDisk(roomy), newPast(snaps)
	s := open(t, d, api.Options{Memory: 12, Tables: 2})
	if err := p.write(r, s, 22); err != nil {
		t.Fatal(err)
	}
	if err := p.safely(s.Close()); err != nil {
		t.Fatal(err)
	}
	return d, p
}

// logAlone is a disk that has a log and nothing else, of so many bytes if a crash comes.
func logAlone(t *testing.T, crash bool, tail uint) (*api.Disk, *past) {
	t.Helper()
	d, p := api.NewDisk(roomy), newPast(false)
	s := open(t, d, api.Options{Memory: 32, Tables: 2})
	for i := range 9 {
		if err := p.do(s, batch(fmt.Sprintf("k%d=%d,-k%d,k30=%d", i, i, i/2, i)), i == 3); err != nil {
			t.Fatal(err)
		}
	}
	if crash {
		d.Crash(9, tail)
	}
	return d, p
}

// broken is a disk that failed behind so many operations, or crashed then: files may be left on it to which nothing leads.
func broken(t *testing.T, after int, crash bool) (*api.Disk, *past) {
	t.Helper()
	r := rand.New(rand.NewSource(int64(after)))
	d, p := api.NewDisk(roomy), newPast(false)
	s := open(t, d, api.Options{Memory: 10, Tables: 2})
	d.Fail(after, math.MaxInt)
	if err := p.write(r, s, 60); err == nil {
		t.Fatalf("behind %d operations nothing fails", after)
	}
	d.Fail(0, 0)
	if crash {
		d.Crash(uint(after), 20)
	} else {
		p.safe = p.done()
	}
	return d, p
}

// TestFlipped: P13: any one bit of any one file is turned.
func TestFlipped(t *testing.T) {
	for _, x := range []struct {
		name string
		disk func(t *testing.T) (*api.Disk, *past)
		step uint
	}{
		{"closed", func(t *testing.T) (*api.Disk, *past) { return closed(t, false) }, 1},
		{"snapshots", func(t *testing.T) (*api.Disk, *past) { return closed(t, true) }, 3},
		{"log", func(t *testing.T) (*api.Disk, *past) { return logAlone(t, false, 0) }, 1},
		{"torn head", func(t *testing.T) (*api.Disk, *past) { return logAlone(t, true, 5) }, 1},
		{"torn body", func(t *testing.T) (*api.Disk, *past) { return logAlone(t, true, 77) }, 1},
		{"deep", deep, 2003},
	} {
		t.Run(x.name, func(t *testing.T) {
			t.Parallel()
			d, p := x.disk(t)
			everyFlip(t, d, p, x.step)
		})
	}
}

// TestFlippedBehind: P13: a bit is turned on a disk that failed, or crashed, within any call.
func TestFlippedBehind(t *testing.T) {
	left := map[string]int{}
	for after := 40; after < 70; after++ {
		for _, crash := range []bool{false, true} {
			d, p := broken(t, after, crash)
			everyFlip(t, d, p, uint(97+after))
			was := d.List()
			open(t, d, api.Options{Memory: 32, Tables: 6})
			for _, name := range was {
				if !slices.Contains(d.List(), name) {
					left[name[:3]]++
				}
			}
		}
	}
	if left["tab"] < 2 || left["log"] < 2 || left["sta"] < 2 {
		t.Errorf("files to which nothing leads: %v: too few to tell", left)
	}
}

// everyFlip tests a disk with one bit turned, every so many bits of all files.
func everyFlip(t *testing.T, d *api.Disk, p *past, step uint) {
	t.Helper()
	for _, name := range d.List() {
		n, _ := d.Size(name)
		for bit := uint(0); bit < uint(8*n); bit += step {
			f := &flip{d: d.Copy(), may: p.all[p.safe:], what: fmt.Sprintf("bit %d of %s", bit, name)}
			f.d.Flip(name, bit)
			f.goesOn(t, int(bit))
			if !f.opened {
				f.turnedBack(t, name, bit)
			}
		}
	}
}

// flip is a disk of which a bit was turned, and which contents the stores over it may have.
type flip struct {
	d      *api.Disk
	may    []contents
	opened bool
	what   string
}

// goesOn tests the stores over the disk: they answer, write, compact, are closed and opened again.
func (f *flip) goesOn(t *testing.T, i int) {
	t.Helper()
	for round := range 2 {
		o, _ := others(i + round)
		s, err := levels.Open(f.d, o)
		if err != nil {
			if s != nil || !errors.Is(err, api.ErrCorrupt) {
				t.Fatalf("%s: Open: %v, %v", f.what, s, err)
			}
			return
		}
		f.opened = true
		f.answers(t, s)
		for k := range 3 {
			f.writes(t, s, batch(fmt.Sprintf("k%d=new,-k%d,x%d%d=1", 7*k, 9*k, round, k)))
			f.answers(t, s)
		}
		for _, call := range []func() error{s.Compact, s.Close} {
			if err := call(); err != nil && !errors.Is(err, api.ErrCorrupt) {
				t.Fatalf("%s: Compact or Close: %v", f.what, err)
			}
			if round == 0 {
				break // this one is left without Close
			}
		}
	}
}

// writes writes a batch: if that is refused, it may be there all the same.
func (f *flip) writes(t *testing.T, s *levels.Store, l []api.Change) {
	t.Helper()
	err := s.Write(l, false)
	if err != nil && !errors.Is(err, api.ErrCorrupt) {
		t.Fatalf("%s: Write: %v", f.what, err)
	}
	var may []contents
	for _, c := range f.may {
		if err != nil {
			may = append(may, c)
		}
		may = append(may, c.with(l))
	}
	f.may = may
}

// answers tests that all answers are by the same contents, of those that may be, or ErrCorrupt.
func (f *flip) answers(t *testing.T, s *levels.Store) {
	t.Helper()
	keys := map[string]string{"none": ""}
	for _, c := range f.may {
		maps.Copy(keys, c)
	}
	for _, key := range slices.Sorted(maps.Keys(keys)) {
		v, ok, err := s.Get(key)
		f.leave(t, fmt.Sprintf("Get(%q): %q, %v, %v", key, v, ok, err), err, func(c contents) bool {
			want, set := c[key]
			return v == want && ok == set
		})
	}
	for _, lo := range []string{"", "k3"} {
		for _, limit := range []int{0, 2} {
			l, err := s.Scan(lo, "", limit)
			f.leave(t, fmt.Sprintf("Scan(%q, %d): %v, %v", lo, limit, l, err), err, func(c contents) bool {
				return slices.Equal(l, c.scan(lo, "", limit))
			})
		}
	}
	l := plain.Collect(s, "", "", math.MaxInt)
	f.leave(t, fmt.Sprintf("All: %v", l), nil, func(c contents) bool {
		all := c.scan("", "", 0)
		return len(l) <= len(all) && slices.Equal(l, all[:len(l)])
	})
}

// leave leaves the contents that an answer is by; none must not be left.
func (f *flip) leave(t *testing.T, answer string, err error, by func(contents) bool) {
	t.Helper()
	if errors.Is(err, api.ErrCorrupt) {
		return
	}
	may := slices.DeleteFunc(slices.Clone(f.may), func(c contents) bool { return !by(c) })
	if err != nil || len(may) == 0 {
		t.Fatalf("%s: %s: with the answers ahead of this one these are the contents of no batches", f.what, answer)
	}
	f.may = may
}

// turnedBack tests that an Open which answered ErrCorrupt took nothing away: when the bit is turned back, all is there.
func (f *flip) turnedBack(t *testing.T, name string, bit uint) {
	t.Helper()
	f.d.Flip(name, bit)
	s := open(t, f.d, usual)
	l, err := s.Scan("", "", 0)
	if err != nil || !slices.ContainsFunc(f.may, func(c contents) bool { return c.are(l) }) {
		t.Fatalf("%s, and turned back: %v, %v", f.what, l, err)
	}
}

// TestFlippedTold: P13: the error of a bit that was turned has the file's name.
func TestFlippedTold(t *testing.T) {
	d, p := closed(t, false)
	told := map[string]int{}
	for _, name := range d.List() {
		n, _ := d.Size(name)
		for bit := range uint(8 * n) {
			c := d.Copy()
			c.Flip(name, bit)
			s, err := levels.Open(c, api.Options{Memory: 32, Tables: 6})
			if err == nil {
				_, err = s.Scan("", "", 0)
			}
			var f *api.FileError
			if !errors.As(err, &f) || f.Name != name || f.Err != api.ErrCorrupt {
				t.Fatalf("bit %d of %s: %v", bit, name, err)
			}
			told[name]++
		}
	}
	if len(told) < 3 || len(p.all) < 20 {
		t.Errorf("bits of so many: %v: too few files to tell", told)
	}
}

// TestCorruptStuck: P13: a store that meets a bit that was turned as it merges tables answers that from then on, and loses nothing.
func TestCorruptStuck(t *testing.T) {
	d := api.NewDisk(roomy)
	s := open(t, d, api.Options{Memory: 1, Tables: 2})
	write(t, s, "a=1", "b=2", "c=3", "d=4", "e=5")
	s.Close()
	x := shaped(t, d, open(t, d, api.Options{Memory: 1, Tables: 2}), api.Options{Memory: 1, Tables: 2})
	name := x.levels[1][0].Name
	for _, call := range []func(s *levels.Store) error{
		func(s *levels.Store) error { return s.Write(batch("f=6"), true) },
		func(s *levels.Store) error { return s.Compact() },
	} {
		c := d.Copy()
		c.Flip(name, 100)
		s := open(t, c, api.Options{Memory: 1, Tables: 2})
		err := call(s)
		if !errors.Is(err, api.ErrCorrupt) {
			t.Fatalf("%v", err)
		}
		stuck(t, s, err)
		c.Flip(name, 100)
		has(t, open(t, c, usual), "a=1,b=2,c=3,d=4,e=5")
	}
}
