package levels_test

import (
	"errors"
	"fmt"
	"math"
	"math/rand"
	"slices"
	"strconv"
	"strings"
	"sync"
	"testing"

	"levels/api"
	"levels/levels"
)

// failsYet tells whether one of the next operations of a disk fails: at most so many are done ahead of that.
func failsYet(d *api.Disk, after int) bool {
	for range after + 1 {
		if _, err := d.Size(""); errors.Is(err, api.ErrDisk) {
			return true
		}
	}
	return false
}

// atFile tests that an error is the disk's, at a file.
func atFile(t *testing.T, what string, err error) {
	t.Helper()
	var f *api.FileError
	if !errors.As(err, &f) || f.Err != api.ErrDisk {
		t.Errorf("%s: %v, want %v at a file", what, err, api.ErrDisk)
	}
}

// TestFaultWithin: P12: some operations fail, from each one of a story on: the call in which that begins answers it, and what comes behind that is as the document says for this call.
func TestFaultWithin(t *testing.T) {
	for _, told := range stories {
		t.Run(told.name, func(t *testing.T) {
			t.Parallel()
			calls := strings.Split(told.calls, "; ")
			for after, ended := 0, false; !ended; after++ {
				n := newStory(after, math.MaxInt).goOn(t, calls)
				ended = n == len(calls)
				for times := 1; times <= 3; times++ {
					x := newStory(after, times)
					x.p.what = fmt.Sprintf("%d operations fail behind %d", times, after)
					if got := x.goOn(t, calls); got != n {
						t.Fatalf("%s: %d calls went well, want %d", x.p.what, got, n)
					}
					x.recovers(t, calls[n:], after+times)
				}
			}
		})
	}
}

// recovers tests a story whose next call, the first of these, answered that the disk fails; then it goes on to its end.
func (x *story) recovers(t *testing.T, calls []string, i int) {
	t.Helper()
	if len(calls) == 0 {
		return
	}
	atFile(t, x.p.what, x.err)
	name, _, _ := strings.Cut(calls[0], " ")
	if name == "open" && x.s != nil {
		t.Fatalf("%s: Open gave a store, and %v", x.p.what, x.err)
	}
	if name != "open" && name != "scan" && name != "close" {
		stuck(t, x.s, x.err)
	}
	if name == "close" {
		everyCallAnswers(t, x.s, api.ErrClosed)
	}
	x.d.Fail(0, 0)
	o, _ := others(i)
	if name != "scan" {
		x.s = open(t, x.d, o)
	}
	x.p.check(t, x.s, x.p.done())
	if n := x.goOn(t, calls[1:]); n != len(calls)-1 {
		t.Fatalf("%s: %s: %v", x.p.what, calls[1+n], x.err)
	}
	s := open(t, x.d, o)
	x.p.check(t, s, len(x.p.all)-1)
	shaped(t, x.d, s, o)
}

// TestFails: P12: an operation fails, and no crash comes: the store answers the error from then on, and the next one has all that was done.
func TestFails(t *testing.T) {
	for after := range 150 {
		for _, times := range []int{1, 2, math.MaxInt} {
			r := rand.New(rand.NewSource(int64(after)))
			d := api.NewDisk(roomy)
			p := newPast(r.Intn(2) == 0)
			s := open(t, d, anyOptions(r))
			d.Fail(after, times)
			err := p.write(r, s, 60)
			if err == nil {
				if times == 1 && !failsYet(d, after) {
					t.Errorf("behind %d operations the disk failed, and no call answered that", after)
				}
				continue
			}
			atFile(t, "Write", err)
			d.Fail(0, 0)
			stuck(t, s, err)
			p.check(t, open(t, d, anyOptions(r)), p.done())
		}
	}
}

// TestFaults: P12: fault upon fault, within any call, over stores of any options, of which some are left without Close.
func TestFaults(t *testing.T) {
	for seed := range int64(200) {
		r := rand.New(rand.NewSource(seed))
		d := api.NewDisk(roomy)
		p := newPast(seed%2 == 1)
		for round := range 10 {
			p.what = fmt.Sprintf("seed %d, fault %d", seed, round+1)
			d.Fail(r.Intn(60), 1+r.Intn(3))
			s, err := levels.Open(d, anyOptions(r))
			if err == nil {
				err = p.write(r, s, r.Intn(40))
			}
			if err == nil && r.Intn(2) == 0 {
				err = p.safely(s.Close())
			}
			if err != nil {
				atFile(t, p.what, err)
			}
			// What is left of the fault comes in the next Opens.
			for range 3 {
				if _, err := levels.Open(d, anyOptions(r)); err == nil {
					break
				}
			}
			d.Fail(0, 0)
			p.check(t, open(t, d, anyOptions(r)), p.done())
		}
	}
}

// TestFailsTogether: P8, P12: several goroutines write when the disk fails: all are answered the same error, and what was done is there, with at most the one batch more that failed.
func TestFailsTogether(t *testing.T) {
	const writers = 4
	for after := range 120 {
		d := api.NewDisk(roomy)
		s := open(t, d, api.Options{Memory: 1 + after%7, Tables: 2})
		d.Fail(after, 1)
		var done [writers]int
		var errs [writers]error
		var w sync.WaitGroup
		for g := range writers {
			w.Add(1)
			go func() {
				defer w.Done()
				for i := 1; i < 300 && errs[g] == nil; i++ {
					errs[g] = s.Write(batch(fmt.Sprintf("a%d=%d,b%d=%d", g, i, g, i)), i%5 == g)
					if errs[g] == nil {
						done[g] = i
					}
				}
			}()
		}
		w.Wait()
		for _, err := range errs {
			atFile(t, "Write", err)
			if fmt.Sprint(err) != fmt.Sprint(errs[0]) {
				t.Fatalf("%v, and %v", errs[0], err)
			}
		}
		stuck(t, s, errs[0])
		s = open(t, d, usual)
		more := 0
		for g := range writers {
			l, err := s.Scan("", "", 0)
			a, _ := strconv.Atoi(value(l, fmt.Sprint("a", g)))
			b, _ := strconv.Atoi(value(l, fmt.Sprint("b", g)))
			more += a - done[g]
			if a != b || a < done[g] || more > 1 || err != nil {
				t.Fatalf("failing behind %d operations: writer %d has %d and %d, of %d batches: %v", after, g, a, b, done[g], err)
			}
		}
	}
}

// value is that of a key in pairs.
func value(l []api.Pair, key string) string {
	for _, p := range l {
		if p.Key == key {
			return p.Value
		}
	}
	return ""
}

// TestRoom: P12: the disk is full: the next store has all that was done, and needs no room to be opened.
func TestRoom(t *testing.T) {
	for room := 0; room < 2500; room += 3 {
		r := rand.New(rand.NewSource(int64(room % 7)))
		d := api.NewDisk(room)
		p := newPast(room%2 == 0)
		o := anyOptions(r)
		s := open(t, d, o)
		err := p.write(r, s, 1000)
		var f *api.FileError
		if !errors.As(err, &f) || f.Err != api.ErrRoom {
			t.Fatalf("room for %d bytes: %v", room, err)
		}
		stuck(t, s, err)
		p.check(t, open(t, d, o), p.done())
		d.Crash(uint(r.Intn(9)), uint(r.Intn(300)))
		p.check(t, open(t, d, o), p.safe)
	}
}

// TestOpenRoom: P12: an Open that has to write tables, over a disk that is too full for them, answers that; nothing is lost by it, and it goes well when there is room.
func TestOpenRoom(t *testing.T) {
	const room = 100000
	wide, narrow := api.Options{Memory: 32, Tables: 6}, api.Options{Memory: 1, Tables: 2}
	r := rand.New(rand.NewSource(1))
	d, p := api.NewDisk(room), newPast(false)
	s := open(t, d, wide)
	for range 60 {
		if err := p.do(s, anyBatch(r, 60), false); err != nil {
			t.Fatal(err)
		}
	}
	if err := s.Close(); err != nil {
		t.Fatal(err)
	}
	refused := 0
	for left := 0; left < room/2; left += 11 {
		c := d.Copy()
		fill(c, room, left)
		s, err := levels.Open(c, narrow)
		if err == nil {
			p.check(t, s, len(p.all)-1)
			break
		}
		refused++
		if s != nil || !errors.Is(err, api.ErrRoom) {
			t.Fatalf("Open: %v, %v", s, err)
		}
		if left%2 == 1 {
			c.Crash(uint(left%5), 0)
		}
		p.check(t, open(t, c, wide), len(p.all)-1)
		c.Remove("full")
		p.check(t, open(t, c, narrow), len(p.all)-1)
	}
	if refused < 30 {
		t.Errorf("Open was refused %d times: too few to tell", refused)
	}
}

// TestCloseFails: P7, P12: a Close that answers an error closes.
func TestCloseFails(t *testing.T) {
	for after := range 2 {
		d := api.NewDisk(roomy)
		s := open(t, d, usual)
		write(t, s, "a=1")
		d.Fail(after, 1)
		atFile(t, "Close", s.Close())
		if err := s.Close(); !errors.Is(err, api.ErrClosed) {
			t.Errorf("Close again: %v", err)
		}
		everyCallAnswers(t, s, api.ErrClosed)
		has(t, open(t, d, usual), "a=1")
	}
}

// TestOpenFails: P12: Open answers what the disk does, and the disk is none the worse for it.
func TestOpenFails(t *testing.T) {
	for seed := range int64(20) {
		r := rand.New(rand.NewSource(seed))
		d := api.NewDisk(roomy)
		p := newPast(seed%2 == 1)
		s := open(t, d, api.Options{Memory: 32, Tables: 6})
		d.Fail(r.Intn(200), math.MaxInt)
		p.write(r, s, 60)
		d.Fail(0, 0)
		p.check(t, open(t, d.Copy(), usual), p.done())
		for after := range 60 {
			c := d.Copy()
			times := 1 + r.Intn(3)
			c.Fail(after, times)
			s, err := levels.Open(c, api.Options{Memory: 1, Tables: 2})
			if (s == nil) != (err != nil) || err != nil && !errors.Is(err, api.ErrDisk) {
				t.Fatalf("Open: %v, %v", s, err)
			}
			if err == nil && !failsYet(c, after) {
				t.Fatalf("behind %d operations the disk failed, and Open did not answer that", after)
			}
			c.Fail(0, 0)
			if r.Intn(2) == 0 {
				c.Crash(uint(r.Intn(20)), uint(r.Intn(100)))
			}
			p.check(t, open(t, c, anyOptions(r)), len(p.all)-1)
		}
	}
}

// TestReadFails: P12: in Get and Scan the disk's error is answered, with zero values, and nothing else changes.
func TestReadFails(t *testing.T) {
	d := api.NewDisk(roomy)
	s := open(t, d, api.Options{Memory: 1, Tables: 2})
	write(t, s, "a=1", "b=2", "c=3")
	for after := range 2 {
		d.Fail(after, math.MaxInt)
		if l, err := s.Scan("", "", 0); l != nil || !errors.Is(err, api.ErrDisk) {
			t.Errorf("Scan: %v, %v", l, err)
		}
	}
	if v, ok, err := s.Get("a"); v != "" || ok || !errors.Is(err, api.ErrDisk) {
		t.Errorf("Get: %q, %v, %v", v, ok, err)
	}
	if _, _, err := s.Get(""); !errors.Is(err, api.ErrKey) {
		t.Errorf("Get of no key: %v", err)
	}
	d.Fail(0, 0)
	has(t, s, "a=1,b=2,c=3")
	write(t, s, "d=4")
	has(t, s, "a=1,b=2,c=3,d=4")
}

// TestReadsFail: P12: wherever a read fails, Get, Scan, GetAt and ScanAt answer it, with zero values; then all goes on.
func TestReadsFail(t *testing.T) {
	d, p := deep(t)
	o := api.Options{Memory: 9, Tables: 2}
	s := open(t, d, o)
	take(t, s, 1)
	before := p.all[len(p.all)-1]
	for i := range 5 {
		if err := p.do(s, batch(fmt.Sprintf("%03d=new,-%03d,%03d=", 17*i, 100*i, 999-i)), false); err != nil {
			t.Fatal(err)
		}
	}
	now := p.all[len(p.all)-1]
	r := rand.New(rand.NewSource(1))
	for range 40 {
		key := fmt.Sprintf("%03d", r.Intn(1000))
		reader{s.Get, s.Scan}.answersFaults(t, d, now, key, r.Intn(50))
		at(s, 1).answersFaults(t, d, before, key, r.Intn(50))
	}
	d.Fail(0, math.MaxInt)
	take(t, s, 2) // a snapshot asks nothing of the disk, nor does Shape
	if _, err := s.Shape(); err != nil {
		t.Errorf("Shape: %v", err)
	}
	d.Fail(0, 0)
	compact(t, s)
	if err := p.do(s, batch("000=last"), true); err != nil {
		t.Fatal(err)
	}
	p.check(t, s, len(p.all)-1)
	if l, err := s.ScanAt(1, "", "", 0); !before.are(l) || err != nil {
		t.Errorf("the snapshot: %v, %v", l, err)
	}
	shaped(t, d, s, o)
}

// answersFaults tests one Get, and one Scan from there on, with each of their reads failing in turn.
func (x reader) answersFaults(t *testing.T, d *api.Disk, c contents, key string, limit int) {
	t.Helper()
	want, set := c[key]
	ask := []func() (right, zero bool, err error){
		func() (bool, bool, error) {
			v, ok, err := x.get(key)
			return v == want && ok == set, v == "" && !ok, err
		},
		func() (bool, bool, error) {
			l, err := x.scan(key, "", limit)
			return slices.Equal(l, c.scan(key, "", limit)), l == nil, err
		},
	}
	for i, f := range ask {
		for after := range 100 {
			d.Fail(after, 1)
			right, zero, err := f()
			if err == nil {
				if !right || !failsYet(d, after) {
					t.Fatalf("call %d at %q, failing behind %d reads: not answered, or %v", i, key, after, right)
				}
				break
			}
			if atFile(t, "a read", err); !zero {
				t.Fatalf("call %d at %q, failing behind %d reads: something beside %v", i, key, after, err)
			}
			d.Fail(0, 0)
			if right, _, err := f(); !right || err != nil {
				t.Fatalf("call %d at %q, behind a read that failed: %v, %v", i, key, right, err)
			}
		}
	}
}

// TestAllAhead: P5, P12: what All gave ahead of a failure goes through the pairs of that time.
func TestAllAhead(t *testing.T) {
	d := api.NewDisk(roomy)
	s := open(t, d, usual)
	write(t, s, "a=1,b=2,c=3,d=4", "e=5")
	all := s.All("b", "e")
	d.Fail(0, 1)
	err := s.Write(batch("c=6"), false)
	atFile(t, "Write", err)
	var l []api.Pair
	for k, v := range all {
		l = append(l, api.Pair{Key: k, Value: v})
	}
	if tell(l) != "b=2,c=3,d=4" {
		t.Errorf("All goes through %v", l)
	}
	stuck(t, s, err)
	for k := range all {
		t.Errorf("All of a closed store goes through %q", k)
	}
}
