package levels_test

import (
	"errors"
	"math"
	"math/rand"
	"slices"
	"strings"
	"testing"
	"unsafe"

	"levels/api"
	"levels/levels"
	"levels/plain"
)

// TestExamples: the document's examples.
func TestExamples(t *testing.T) {
	s := open(t, api.NewDisk(roomy), usual)
	get := func(key, value string, set bool) {
		t.Helper()
		if v, ok, err := s.Get(key); v != value || ok != set || err != nil {
			t.Errorf("Get(%q): %q, %v, %v, want %q, %v", key, v, ok, err, value, set)
		}
	}
	get("a", "", false)
	write(t, s, "a=1", "a=2,b=3,-a,c=")
	get("a", "", false)
	get("b", "3", true)
	get("c", "", true)
	has(t, s, "b=3,c=")
	for _, x := range []struct{ lo, hi, want string }{{"bb", "", "c="}, {"b", "c", "b=3"}, {"c", "b", ""}} {
		if l, err := s.Scan(x.lo, x.hi, 0); tell(l) != x.want || err != nil {
			t.Errorf("Scan(%q, %q): %v, %v", x.lo, x.hi, l, err)
		}
	}
	for x, want := range map[string]api.Errno{"123456789=": api.ErrKey, "a=12345678901234567": api.ErrValue, "a=,a=,a=,a=,a=,a=,a=,a=,a=": api.ErrMany} {
		if err := s.Write(batch(x), false); !errors.Is(err, want) {
			t.Errorf("Write(%q): %v, want %v", x, err, want)
		}
	}
	take(t, s, 1)
	write(t, s, "b=7")
	if v, ok, err := s.GetAt(1, "b"); v != "3" || !ok || err != nil {
		t.Errorf("GetAt: %q, %v, %v", v, ok, err)
	}
	get("b", "7", true)
	noSnap(t, s, 2)
	if err := s.Release(1); err != nil {
		t.Error(err)
	}
	noSnap(t, s, 1)
	if err := s.Close(); err != nil {
		t.Error(err)
	}
	if err := s.Close(); !errors.Is(err, api.ErrClosed) {
		t.Error(err)
	}
	if _, _, err := s.Get("b"); !errors.Is(err, api.ErrClosed) {
		t.Error(err)
	}
}

// TestOptions: P3.
func TestOptions(t *testing.T) {
	ends := []int{math.MinInt, -1, 0, 1, 2, 3, 5, 6, 7, 31, 32, 33, math.MaxInt}
	for _, m := range ends {
		for _, n := range ends {
			d := api.NewDisk(roomy)
			d.Fail(0, math.MaxInt) // a refusal of the options goes ahead of what the disk says
			good := m >= 1 && m <= api.MaxMemory && n >= 2 && n <= api.MaxTables
			if good {
				d.Fail(0, 0)
			}
			s, err := levels.Open(d, api.Options{Memory: m, Tables: n})
			if (s != nil) != good || (err == nil) != good || !good && !errors.Is(err, api.ErrOptions) {
				t.Errorf("Memory %d, Tables %d: %v, %v", m, n, s, err)
			}
		}
	}
}

// TestEmpty: P3: a disk without files needs no room for a store that does nothing.
func TestEmpty(t *testing.T) {
	d := api.NewDisk(0)
	for range 2 {
		s := open(t, d, usual)
		has(t, s, "")
		if err := s.Close(); err != nil {
			t.Error(err)
		}
	}
	if l := d.List(); len(l) > 0 {
		t.Errorf("files: %q", l)
	}
}

// TestRefused: P4: which error comes first, and that nothing is done with one.
func TestRefused(t *testing.T) {
	long, wide := strings.Repeat("k", 9), strings.Repeat("v", 17)
	good := api.Change{Key: "a", Value: "1"}
	noKey, longKey, wideValue := api.Change{Value: wide}, api.Change{Key: long}, api.Change{Key: "a", Value: wide}
	for i, x := range []struct {
		l    []api.Change
		want error
	}{
		{slices.Repeat([]api.Change{noKey}, 9), api.ErrMany},
		{slices.Repeat([]api.Change{good}, 9), api.ErrMany},
		{[]api.Change{noKey}, api.ErrKey},
		{[]api.Change{longKey}, api.ErrKey},
		{[]api.Change{wideValue}, api.ErrValue},
		{[]api.Change{good, wideValue, noKey}, api.ErrValue},
		{[]api.Change{good, noKey, wideValue}, api.ErrKey},
		{[]api.Change{good, good, good, good, good, good, good, longKey}, api.ErrKey},
		{[]api.Change{{Key: "", Delete: true}}, api.ErrKey},
		{[]api.Change{{Key: long, Delete: true}}, api.ErrKey},
	} {
		s := open(t, api.NewDisk(roomy), usual)
		write(t, s, "z=1")
		if err := s.Write(x.l, true); !errors.Is(err, x.want) {
			t.Errorf("batch %d: %v, want %v", i, err, x.want)
		}
		has(t, s, "z=1")
	}
}

// TestTaken: P4, P5: the greatest key, value and batch; a value beside a deletion is none.
func TestTaken(t *testing.T) {
	for memory := 1; memory <= 9; memory++ {
		d := api.NewDisk(roomy)
		s := open(t, d, api.Options{Memory: memory, Tables: 2})
		write(t, s, "", "12345678=1234567890123456", "a=1,a=2,a=3,a=4,a=5,a=6,a=7,b=8")
		l := []api.Change{{Key: "b", Value: strings.Repeat("v", 99), Delete: true}, {Key: "\x00", Value: "\xff\x00"}}
		if err := s.Write(l, false); err != nil {
			t.Error(err)
		}
		for range 2 {
			has(t, s, "\x00=\xff\x00,12345678=1234567890123456,a=7")
			if err := s.Close(); err != nil {
				t.Error(err)
			}
			s = open(t, d, usual)
		}
	}
}

// TestScan: P5.
func TestScan(t *testing.T) {
	s := open(t, api.NewDisk(roomy), api.Options{Memory: 2, Tables: 2})
	c := contents{}
	for _, x := range []string{"a=1,b=2", "\x00=3", "\x00\x00=4,a\x00=5", "-b", "ab=6,\xff\xff\xff\xff\xff\xff\xff\xff=7", "b=8,c=9", "-c"} {
		write(t, s, x)
		c = c.with(batch(x))
	}
	ends := []string{"", "\x00", "\x00\x00", "\x00\x00\x00", "a", "a\x00", "aa", "ab", "b", "c", "d", "abcdefghijklmnop", "\xff", strings.Repeat("\xff", 8), strings.Repeat("\xff", 9)}
	for _, lo := range ends {
		for _, hi := range ends {
			for _, limit := range []int{math.MinInt, -1, 0, 1, 2, 5, 6, 7, math.MaxInt} {
				want := c.scan(lo, hi, limit)
				if l, err := s.Scan(lo, hi, limit); !slices.Equal(l, want) || err != nil {
					t.Errorf("Scan(%q, %q, %d): %q, %v, want %q", lo, hi, limit, l, err, want)
				}
				if limit > 0 && !slices.Equal(plain.Collect(s, lo, hi, limit), want) {
					t.Errorf("All(%q, %q), the first %d: want %q", lo, hi, limit, want)
				}
			}
		}
	}
}

// TestGet: P5: the keys that are none.
func TestGet(t *testing.T) {
	s := open(t, api.NewDisk(roomy), usual)
	write(t, s, "a=1,b=,c=3,-c")
	for key, want := range map[string]error{"": api.ErrKey, "123456789": api.ErrKey, strings.Repeat("k", 1000): api.ErrKey, "12345678": nil, "c": nil} {
		if v, ok, err := s.Get(key); v != "" || ok || !errors.Is(err, want) {
			t.Errorf("Get(%q): %q, %v, %v, want %v", key, v, ok, err, want)
		}
	}
}

// TestAll: P5: All goes through what there was, as often as one likes, whatever is done meanwhile.
func TestAll(t *testing.T) {
	for memory := 1; memory <= 8; memory++ {
		s := open(t, api.NewDisk(roomy), api.Options{Memory: memory, Tables: 2})
		write(t, s, "a=1,b=2", "c=3", "d=4")
		all := s.All("b", "d")
		for i := range 20 {
			got := ""
			for k, v := range all {
				got += k + v
				write(t, s, "-b", "c="+string(rune('a'+i)), "bb=9")
				if l, err := s.Scan("bb", "bc", 0); len(l) != 1 || err != nil {
					t.Errorf("Scan within the loop: %v, %v", l, err)
				}
			}
			if got != "b2c3" {
				t.Errorf("All went through %q, want b2c3", got)
			}
		}
		l, err := plain.Later(s, "", "", api.Change{Key: "a", Value: "7"})
		if tell(l) != "a=1,bb=9,c=t,d=4" || err != api.OK {
			t.Errorf("Later: %v, %v", l, err)
		}
		for range all {
			break
		}
	}
}

// TestAllFails: P1, P5: where there is an error, All ends, and Scan answers it and nothing else.
func TestAllFails(t *testing.T) {
	d := api.NewDisk(roomy)
	s := open(t, d, api.Options{Memory: 32, Tables: 2})
	r := rand.New(rand.NewSource(1))
	c := contents{}
	for range 200 {
		l := anyBatch(r, 100)
		c = c.with(l)
		if err := s.Write(l, false); err != nil {
			t.Fatal(err)
		}
	}
	want := c.scan("", "", 0)
	lengths := map[int]int{}
	for after := range 100 {
		d.Fail(after, math.MaxInt)
		got := plain.Collect(s, "", "", math.MaxInt)
		d.Fail(after, math.MaxInt)
		l, err := s.Scan("", "", 0)
		d.Fail(0, 0)
		if err == nil && !slices.Equal(l, want) || err != nil && (l != nil || !errors.Is(err, api.ErrDisk)) {
			t.Fatalf("failing behind %d reads: Scan: %v, %v", after, l, err)
		}
		if len(got) > len(want) || !slices.Equal(got, want[:len(got)]) {
			t.Fatalf("failing behind %d reads: %v, want the first of %v", after, got, want)
		}
		lengths[len(got)]++
	}
	if lengths[0] == 0 || lengths[len(want)] == 0 || len(lengths) < 4 {
		t.Errorf("All ended after so many pairs (so many times): %v", lengths)
	}
}

// TestClose: P7.
func TestClose(t *testing.T) {
	for _, l := range [][]string{nil, {"a=1"}, {"a=1,b=2,c=3,d=4"}, {"a=1,b=2,c=3,d=4", "e=5"}} {
		d := api.NewDisk(roomy)
		s := open(t, d, usual)
		write(t, s, l...)
		want, _ := s.Scan("", "", 0)
		all := s.All("", "")
		if err := s.Close(); err != nil {
			t.Error(err)
		}
		if err := s.Close(); !errors.Is(err, api.ErrClosed) {
			t.Errorf("Close again: %v", err)
		}
		everyCallAnswers(t, s, api.ErrClosed)
		for k, v := range all {
			t.Errorf("All of before goes through %q, %q", k, v)
		}
		for dir := range uint(3) {
			d.Crash(dir, dir)
			has(t, open(t, d, usual), tell(want))
		}
	}
}

// TestCloseWithin: P7: a store that is closed while All's function runs.
func TestCloseWithin(t *testing.T) {
	s := open(t, api.NewDisk(roomy), usual)
	write(t, s, "a=1,b=2,c=3")
	n := 0
	for k := range s.All("", "") {
		if n++; k == "b" {
			s.Close()
		}
	}
	if n != 2 {
		t.Errorf("All went through %d pairs, want 2", n)
	}
}

// TestZero: P1: with an error every other result is zero.
func TestZero(t *testing.T) {
	s := open(t, api.NewDisk(roomy), usual)
	write(t, s, "a=1,b=2")
	take(t, s, 1)
	if v, ok, err := s.Get("123456789"); v != "" || ok || !errors.Is(err, api.ErrKey) {
		t.Errorf("Get of no key: %q, %v, %v", v, ok, err)
	}
	s.Close()
	noResults(t, s)
}

// TestKept: P2: what is handed in stays as it is and may be changed later; what comes out is nobody else's.
func TestKept(t *testing.T) {
	for memory := 1; memory <= 4; memory++ {
		d := api.NewDisk(roomy)
		s := open(t, d, api.Options{Memory: memory, Tables: 2})
		l := make([]api.Change, 0, 8)
		l = append(l, batch("b=1,a=2,-c")...)
		was := slices.Clone(l[:8])
		if err := s.Write(l, true); err != nil || !slices.Equal(l[:8], was) {
			t.Errorf("Write: %v; the list is now %v", err, l[:8])
		}
		clear(l)
		for range 2 {
			pairs, _ := s.Scan("", "", 0)
			if tell(pairs) != "a=2,b=1" {
				t.Errorf("the store has %v", pairs)
			}
			clear(pairs)
		}
		other := open(t, api.NewDisk(roomy), usual)
		has(t, other, "")
	}
}

// TestTexts: P2: the bytes of texts are copied too, on their way in and out.
func TestTexts(t *testing.T) {
	for memory := 1; memory <= 2; memory++ {
		s := open(t, api.NewDisk(roomy), api.Options{Memory: memory, Tables: 2})
		key, value := []byte("a"), []byte("1")
		l := []api.Change{{Key: unsafe.String(&key[0], 1), Value: unsafe.String(&value[0], 1)}}
		if err := s.Write(l, false); err != nil {
			t.Fatal(err)
		}
		key[0], value[0] = 'x', 'x'
		has(t, s, "a=1")
		v, _, _ := s.Get("a")
		pairs, _ := s.Scan("", "", 0)
		for _, x := range []string{v, pairs[0].Key, pairs[0].Value} {
			*unsafe.StringData(x) = 'x'
		}
		has(t, s, "a=1")
	}
}

// TestModel: P3 to P5: many batches, with other options from time to time.
func TestModel(t *testing.T) {
	for seed := range int64(30) {
		r := rand.New(rand.NewSource(seed))
		d := api.NewDisk(roomy)
		keys := 1 + r.Intn(400)
		s := open(t, d, anyOptions(r))
		c := contents{}
		for range 250 {
			l := anyBatch(r, keys)
			if err := s.Write(l, r.Intn(3) == 0); err != nil {
				t.Fatal(err)
			}
			c = c.with(l)
			reader{s.Get, s.Scan}.agree(t, r, c, keys)
			if r.Intn(40) == 0 {
				// A store that is not closed has left what it did as well, if no crash comes.
				if r.Intn(2) == 0 {
					if err := s.Close(); err != nil {
						t.Fatal(err)
					}
				}
				s = open(t, d, anyOptions(r))
			}
		}
		if l, err := s.Scan("", "", 0); !slices.Equal(l, c.scan("", "", 0)) || err != nil {
			t.Fatalf("seed %d: %v, %v", seed, l, err)
		}
	}
}

// reader is what answers from some contents: a store, or a snapshot of it.
type reader struct {
	get  func(key string) (string, bool, error)
	scan func(lo, hi string, limit int) ([]api.Pair, error)
}

// agree tests some answers.
func (x reader) agree(t *testing.T, r *rand.Rand, c contents, keys int) {
	t.Helper()
	key := anyKey(r, keys)
	want, set := c[key]
	if v, ok, err := x.get(key); v != want || ok != set || err != nil {
		t.Fatalf("Get(%q): %q, %v, %v, want %q, %v", key, v, ok, err, want, set)
	}
	lo, hi, limit := anyKey(r, keys), anyKey(r, keys), r.Intn(9)
	if r.Intn(4) == 0 {
		lo, hi, limit = "", "", 0
	}
	if l, err := x.scan(lo, hi, limit); !slices.Equal(l, c.scan(lo, hi, limit)) || err != nil {
		t.Fatalf("Scan(%q, %q, %d): %v, %v", lo, hi, limit, l, err)
	}
}
