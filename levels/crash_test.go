package levels_test

import (
	"errors"
	"fmt"
	"math"
	"math/rand"
	"slices"
	"strconv"
	"strings"
	"sync"
	"testing"

	"levels/api"
	"levels/levels"
)

// stories are calls, one behind the other: together each call that uses the disk, and each thing that it can do there. (How a call is told: see story.call.)
var stories = []struct{ name, calls string }{
	{"log", "open 32 6; a=1; -a,b=2,c=2; sync d=3,-b; e=4,f=4; sync; g=5; close; open 32 6; h=6; close"},
	{"memory", "open 4 2; a=1,b=1; c=2; d=3,-a; e=4; sync b=5; f=6,g=6; close"},
	{"each", "open 1 2; a=1; b=2,c=2; sync -a; d=4; sync b=5,e=5; f=6; close"},
	{"merging", "open 2 2; a=1,b=1; c=2,-b; d=3; e=4; scan; sync a=5; b=6,-c; f=7; close"},
	{"compact", "open 8 3; a=1,b=1; c=2; compact; compact; d=3,-a; sync e=4; f=5; compact; -b,-c,-d,-e,-f; compact; g=7"},
	{"snapshots", "open 3 2; a=1,b=1; snapshot; a=2,c=2; snapshot; -a,b=3; a=4; snapshot; compact; -b,d=5; close"},
	{"left", "open 8 2; a=1,b=1,c=1; d=2,e=2; open 32 6; f=3; open 4 2; g=4; sync h=5; open 1 2; i=6; open 8 6; compact"},
	{"wide", "open 2 6; a=1,b=1; c=2,d=2; e=3,-a; sync f=4; g=5,b=5; h=6; i=7,j=7; k=8; close"},
	{"narrower", "open 32 6; a=1,b=1; sync c=2; -a,d=3,e=3; open 2 2; f=4; close; open 1 2; close"},
}

// story is what happens over a disk, call by call.
type story struct {
	d   *api.Disk
	s   *levels.Store
	p   *past
	err error // of the last call
}

// newStory begins over a disk without files: of its operations, behind so many, so many fail.
func newStory(after, times int) *story {
	x := &story{d: api.NewDisk(roomy), p: newPast(false)}
	x.d.Fail(after, times)
	return x
}

// call makes a call that is told as "open 4 2" (with Memory and Tables), "compact", "close", "snapshot", "scan", "sync" and a batch, or a batch alone.
func (x *story) call(told string) error {
	name, rest, _ := strings.Cut(told, " ")
	switch name {
	case "open":
		var o api.Options
		var err error
		fmt.Sscan(rest, &o.Memory, &o.Tables)
		x.s, err = levels.Open(x.d, o)
		return err
	case "compact":
		return x.p.safely(x.s.Compact())
	case "close":
		return x.p.safely(x.s.Close())
	case "snapshot":
		_, err := x.s.Snapshot()
		return err
	case "scan":
		_, err := x.s.Scan("", "", 0)
		return err
	case "sync":
		return x.p.do(x.s, batch(rest), true)
	}
	return x.p.do(x.s, batch(told), false)
}

// goOn makes calls till the disk fails in one, and tells how many are ahead of that one.
func (x *story) goOn(t *testing.T, calls []string) int {
	t.Helper()
	for i, told := range calls {
		x.err = x.call(told)
		if errors.Is(x.err, api.ErrDisk) {
			return i
		}
		if x.err != nil {
			t.Fatalf("%s: %v", told, x.err)
		}
	}
	return len(calls)
}

// crashes goes through choices of what a disk keeps of names and bytes.
func crashes(yield func(dir, tail uint) bool) {
	for dir := range uint(10) {
		for _, tail := range []uint{0, 1, 12 + dir, 40 + 7*dir, math.MaxUint - dir} {
			if !yield(dir, tail) {
				return
			}
		}
	}
}

// others is options for the stores behind a crash: the i-th, and the one behind that.
func others(i int) (o, next api.Options) {
	l := []api.Options{{Memory: 4, Tables: 2}, {Memory: 1, Tables: 2}, {Memory: 32, Tables: 6}}
	return l[i%len(l)], l[(i+1)%len(l)]
}

// comesThrough tests the i-th disk behind a crash: a store over it has what was safe, and no batch by half; it is a store like any other, and the next one has all that it did.
func (p *past) comesThrough(t *testing.T, d *api.Disk, i int) {
	t.Helper()
	o, next := others(i)
	s := open(t, d, o)
	p.check(t, s, p.safe)
	if x, c := shaped(t, d, s, o), p.all[len(p.all)-1]; len(c) > x.entries+o.Memory-1 {
		t.Fatalf("%s: %v: %d keys, and %d entries in tables", p.what, o, len(c), x.entries)
	}
	take(t, s, 1)
	for _, key := range strings.Split("abcdefghijkl", "") {
		want, set := p.all[len(p.all)-1][key]
		if v, ok, err := s.Get(key); v != want || ok != set || err != nil {
			t.Fatalf("%s: Get(%q): %q, %v, %v, want %q, %v", p.what, key, v, ok, err, want, set)
		}
	}
	for i := range 5 {
		l := []api.Change{{Key: "a", Delete: i%2 == 0}, {Key: fmt.Sprint("z", i), Value: "new"}}
		if err := p.do(s, l, i == 2); err != nil {
			t.Fatalf("Write: %v", err)
		}
	}
	p.check(t, s, len(p.all)-1)
	shaped(t, d, s, o)
	if err := s.Close(); err != nil {
		t.Fatalf("Close: %v", err)
	}
	d.Crash(0, 0)
	s = open(t, d, next)
	p.check(t, s, len(p.all)-1)
	compacted(t, d, s, next, len(p.all[len(p.all)-1]))
}

// TestCrashExample: P11 as the document's example tells it.
func TestCrashExample(t *testing.T) {
	for _, memory := range []int{1, 3, 6, 9, 10, 32} {
		for after := -1; after < 15; after++ {
			for dir, tail := range crashes {
				d := api.NewDisk(roomy)
				s := open(t, d, api.Options{Memory: memory, Tables: 2})
				write(t, s, "a=1,b=1")
				if err := s.Write(batch("a=2,c=2"), true); err != nil {
					t.Fatal(err)
				}
				write(t, s, "-a,d=3", "b=4,e=4")
				may := []string{"a=2,b=1,c=2", "b=1,c=2,d=3", "b=4,c=2,d=3,e=4"}
				if after >= 0 {
					d.Fail(after, math.MaxInt)
					may = append(may, "b=4,d=3,e=4,f=5")
					if err := s.Write(batch("-c,f=5"), true); err == nil {
						may = may[3:]
					}
				}
				d.Crash(dir, tail)
				l, err := open(t, d, usual).Scan("", "", 0)
				if err != nil || !slices.Contains(may, tell(l)) {
					t.Fatalf("Memory %d, failing behind %d operations, Crash(%d, %d): %q, %v, want one of %q", memory, after, dir, tail, tell(l), err, may)
				}
			}
		}
	}
}

// TestStories: the disk can fail in each call that uses it, so that a crash can come there.
func TestStories(t *testing.T) {
	failed := map[string]int{}
	for _, told := range stories {
		calls := strings.Split(told.calls, "; ")
		for after := range 300 {
			n := newStory(after, math.MaxInt).goOn(t, calls)
			if n == len(calls) {
				break
			}
			name, _, _ := strings.Cut(calls[n], " ")
			if strings.ContainsAny(name, "=-") {
				name = "a batch"
			}
			failed[name]++
		}
	}
	for _, name := range []string{"open", "a batch", "sync", "compact", "close", "scan"} {
		if failed[name] < 2 {
			t.Errorf("%s fails %d times: too few to tell", name, failed[name])
		}
	}
}

// TestCrashWithin: P11: a crash within a call, at every one of its operations.
func TestCrashWithin(t *testing.T) {
	for _, told := range stories {
		t.Run(told.name, func(t *testing.T) {
			t.Parallel()
			calls := strings.Split(told.calls, "; ")
			for after, ended := 0, false; !ended; after++ {
				i := after
				for dir, tail := range crashes {
					x := newStory(after, math.MaxInt)
					ended = x.goOn(t, calls) == len(calls)
					x.d.Crash(dir, tail)
					x.p.what = fmt.Sprintf("failing behind %d operations, Crash(%d, %d)", after, dir, tail)
					x.p.comesThrough(t, x.d, i)
					i++
				}
			}
		})
	}
}

// TestCrashBetween: P11: a crash between two calls.
func TestCrashBetween(t *testing.T) {
	for _, told := range stories {
		t.Run(told.name, func(t *testing.T) {
			t.Parallel()
			calls := strings.Split(told.calls, "; ")
			for n := range len(calls) + 1 {
				i := n
				for dir, tail := range crashes {
					x := newStory(0, 0)
					x.goOn(t, calls[:n])
					x.d.Crash(dir, tail)
					x.p.what = fmt.Sprintf("behind %d calls, Crash(%d, %d)", n, dir, tail)
					x.p.comesThrough(t, x.d, i)
					i++
				}
			}
		})
	}
}

// TestCrashUponCrash: P11: a crash, and then crashes within the Opens that come behind it, at every operation.
func TestCrashUponCrash(t *testing.T) {
	narrow := api.Options{Memory: 1, Tables: 2}
	for _, told := range stories {
		t.Run(told.name, func(t *testing.T) {
			t.Parallel()
			calls := strings.Split(told.calls, "; ")
			for after, ended := 0, false; !ended; after++ {
				for first := range uint(4) {
					x := newStory(after, math.MaxInt)
					ended = x.goOn(t, calls) == len(calls)
					x.d.Crash(3*first, 11*first)
					for within, opened := 0, false; !opened; within++ {
						p, d := x.p.copy(), x.d.Copy() // a crash leaves nothing that is not safe: so nothing is lost by Copy
						for again := range uint(3) {
							d.Fail(within, math.MaxInt)
							s, err := levels.Open(d, narrow)
							if opened = err == nil; opened != (s != nil) || err != nil && !errors.Is(err, api.ErrDisk) {
								t.Fatalf("Open: %v, %v", s, err)
							}
							d.Crash(first+again, 5*again)
						}
						p.what = fmt.Sprintf("failing behind %d operations, Crash(%d, %d), and three times within Open, behind %d", after, 3*first, 11*first, within)
						p.comesThrough(t, d, within)
					}
				}
			}
		})
	}
}

// TestCrashBehindFault: P11, P12: the disk fails for a while, and no crash comes: the next store makes safe what the one ahead of it did, too.
func TestCrashBehindFault(t *testing.T) {
	for _, told := range stories {
		t.Run(told.name, func(t *testing.T) {
			t.Parallel()
			calls := strings.Split(told.calls, "; ")
			for after, ended := 0, false; !ended; after++ {
				for i, call := range []string{"sync", "sync y=8,z=9", "compact", "close"} {
					x := newStory(after, 1+i%2)
					ended = x.goOn(t, calls) == len(calls)
					x.d.Fail(0, 0)
					o, _ := others(after + i)
					x.s = open(t, x.d, o)
					x.p.what = fmt.Sprintf("failing behind %d operations", after)
					x.p.check(t, x.s, x.p.done())
					if err := x.call(call); err != nil || x.p.safe != len(x.p.all)-1 {
						t.Fatalf("%s: %v", call, err)
					}
					x.d.Crash(0, 0)
					x.p.what += ", Crash(0, 0) behind " + call
					x.p.comesThrough(t, x.d, i)
				}
			}
		})
	}
}

// TestCrashTogether: P8, P11: several goroutines write, and the crash comes within some Write: of each one's batches the first ones come through, all up to its last that is safe, and none by half.
func TestCrashTogether(t *testing.T) {
	const writers = 4
	for after := range 200 {
		d := api.NewDisk(roomy)
		s := open(t, d, api.Options{Memory: 1 + after%7, Tables: 2})
		d.Fail(after, math.MaxInt)
		var safe, done [writers]int
		var w sync.WaitGroup
		for g := range writers {
			w.Add(1)
			go func() {
				defer w.Done()
				for i := 1; i < 300; i++ {
					if s.Write(batch(fmt.Sprintf("a%d=%d,b%d=%d", g, i, g, i)), i%5 == g) != nil {
						return
					}
					done[g] = i
					if i%5 == g {
						safe[g] = i
					}
				}
			}()
		}
		w.Wait()
		d.Crash(uint(after%9), uint(after))
		s = open(t, d, usual)
		for g := range writers {
			a, _, err := s.Get(fmt.Sprint("a", g))
			b, _, errB := s.Get(fmt.Sprint("b", g))
			n, _ := strconv.Atoi(a)
			if a != b || err != nil || errB != nil || n < safe[g] || n > done[g]+1 {
				t.Fatalf("failing behind %d operations: writer %d has %q and %q (%v, %v), of %d batches, %d of them safe", after, g, a, b, err, errB, done[g], safe[g])
			}
		}
	}
}

// long is a batch of the most bytes that there are.
func long(n int) []api.Change {
	var l []api.Change
	for i := range api.MaxChanges {
		l = append(l, api.Change{Key: fmt.Sprintf("longer%02d", (5*n+i)%11), Value: fmt.Sprintf("value%11d", n)})
	}
	return l
}

// TestCrashTails: P11: any number of the log's bytes may be left: no batch is there by half.
func TestCrashTails(t *testing.T) {
	const batches = 3
	for safe := -1; safe < batches; safe++ {
		for tail := range uint(batches * 260) {
			d := api.NewDisk(roomy)
			s := open(t, d, api.Options{Memory: 32, Tables: 6})
			p := newPast(false)
			for i := range batches {
				if err := p.do(s, long(i), i == safe); err != nil {
					t.Fatal(err)
				}
			}
			d.Crash(1, tail)
			p.what = fmt.Sprintf("batch %d with sync, Crash(1, %d)", safe, tail)
			p.comesThrough(t, d, int(tail))
		}
	}
}

// deep is a disk with tables in all levels, and what was done to it.
func deep(t *testing.T) (*api.Disk, *past) {
	t.Helper()
	r := rand.New(rand.NewSource(5))
	d, o, c := api.NewDisk(roomy), api.Options{Memory: 32, Tables: 2}, contents{}
	s := open(t, d, o)
	for range 75 {
		var l []api.Change
		for range api.MaxChanges {
			l = append(l, api.Change{Key: fmt.Sprintf("%03d", r.Intn(1000)), Value: fmt.Sprint(r.Intn(1000))})
		}
		if err := s.Write(l, false); err != nil {
			t.Fatal(err)
		}
		c = c.with(l)
	}
	if x := shaped(t, d, s, o); x.filled < api.MaxLevels-1 || len(x.levels[api.MaxLevels-1]) == 0 {
		t.Fatalf("tables: %v", x.levels)
	}
	if err := s.Close(); err != nil {
		t.Fatal(err)
	}
	return d, &past{all: []contents{c}}
}

// TestCrashDeep: P11: a crash while tables of all levels are merged, and while all are compacted.
func TestCrashDeep(t *testing.T) {
	base, done := deep(t)
	for _, calls := range []string{"open 1 2; 500=1,501=2; 777=3,-500", "open 32 2; 100=1,900=1; compact", "open 9 2; 100=1,-900; sync; 101=2; open 1 2"} {
		t.Run(calls, func(t *testing.T) {
			t.Parallel()
			calls := strings.Split(calls, "; ")
			for after, ended := 0, false; !ended; after++ {
				for dir := range uint(18) {
					x := &story{d: base.Copy(), p: done.copy()}
					x.d.Fail(after, math.MaxInt)
					ended = x.goOn(t, calls) == len(calls)
					x.d.Crash(dir, 17*dir)
					x.p.what = fmt.Sprintf("failing behind %d operations, Crash(%d, %d)", after, dir, 17*dir)
					o, _ := others(after)
					s := open(t, x.d, o)
					x.p.check(t, s, x.p.safe)
					shaped(t, x.d, s, o)
				}
			}
		})
	}
}

// TestSync: P4: a batch that was written with sync is there behind a crash, and all ahead of it.
func TestSync(t *testing.T) {
	for _, memory := range []int{1, 3, 32} {
		for dir := range uint(5) {
			for tail := range uint(40) {
				d := api.NewDisk(roomy)
				s := open(t, d, api.Options{Memory: memory, Tables: 2})
				write(t, s, "a=1", "b=2")
				if err := s.Write(batch("-a"), true); err != nil {
					t.Fatal(err)
				}
				write(t, s, "c=3")
				if err := s.Write(nil, true); err != nil {
					t.Fatal(err)
				}
				write(t, s, "b=4,d=5")
				d.Crash(dir, tail)
				l, err := open(t, d, usual).Scan("", "", 0)
				if got := tell(l); err != nil || got != "b=2,c=3" && got != "b=4,c=3,d=5" {
					t.Errorf("Memory %d, Crash(%d, %d): %q, %v", memory, dir, tail, got, err)
				}
			}
		}
	}
}

// TestLeft: P4, P7, P11: what an earlier store left without Close is made safe as well.
func TestLeft(t *testing.T) {
	for _, safe := range []func(s *levels.Store) error{
		func(s *levels.Store) error { return s.Close() },
		func(s *levels.Store) error { return s.Compact() },
		func(s *levels.Store) error { return s.Write(nil, true) },
		func(s *levels.Store) error { return s.Write(batch("b=2"), true) },
	} {
		for _, memory := range []int{2, 32} {
			d := api.NewDisk(roomy)
			o := api.Options{Memory: memory, Tables: 2}
			write(t, open(t, d, o), "a=1", "b=2", "c=3")
			if err := safe(open(t, d, o)); err != nil {
				t.Fatal(err)
			}
			d.Crash(0, 0)
			has(t, open(t, d, o), "a=1,b=2,c=3")
		}
	}
}

// TestCrash: P11: crash upon crash, within any call or between two, over stores of any options, each of which goes on from where the one ahead of it came to.
func TestCrash(t *testing.T) {
	for seed := range int64(400) {
		r := rand.New(rand.NewSource(seed))
		d := api.NewDisk(roomy)
		p := newPast(seed%2 == 1)
		for round := range 6 {
			if r.Intn(4) > 0 {
				d.Fail(r.Intn(120), math.MaxInt)
			}
			p.what = fmt.Sprintf("seed %d, crash %d", seed, round+1)
			s, err := levels.Open(d, anyOptions(r))
			if err == nil {
				err = p.write(r, s, r.Intn(60))
			}
			if err == nil && r.Intn(2) == 0 {
				err = p.safely(s.Close())
			}
			if err != nil && !errors.Is(err, api.ErrDisk) {
				t.Fatal(err)
			}
			d.Crash(uint(r.Intn(20)), uint(r.Intn(200)))
			for range r.Intn(3) {
				d.Fail(r.Intn(25), math.MaxInt)
				levels.Open(d, anyOptions(r))
				d.Crash(uint(r.Intn(20)), uint(r.Intn(200)))
			}
			p.check(t, open(t, d, anyOptions(r)), p.safe)
		}
	}
}

// TestEveryCrash: a crash at each operation of one story, with each outcome for the names.
func TestEveryCrash(t *testing.T) {
	for after := range 150 {
		for dir := range uint(6) {
			for _, tail := range []uint{0, 1, 13, 30} {
				r := rand.New(rand.NewSource(7))
				d := api.NewDisk(roomy)
				p := newPast(after%2 == int(dir%2))
				s := open(t, d, api.Options{Memory: 6, Tables: 2})
				d.Fail(after, math.MaxInt)
				p.write(r, s, 40)
				d.Crash(dir, tail)
				p.check(t, open(t, d, usual), p.safe)
			}
		}
	}
}
