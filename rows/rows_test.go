package rows

import (
	"errors"
	"math"
	"math/rand"
	"slices"
	"strconv"
	"strings"
	"testing"

	"levels/code"
)

// read makes entries of a text: key=value@batch or -key@batch, with blanks between.
func read(s string) []Entry {
	var l []Entry
	for _, w := range strings.Fields(s) {
		w, n, _ := strings.Cut(w, "@")
		batch, _ := strconv.ParseUint(n, 10, 64)
		if k, ok := strings.CutPrefix(w, "-"); ok {
			l = append(l, Entry{Key: k, Deleted: true, Batch: batch})
			continue
		}
		k, v, _ := strings.Cut(w, "=")
		l = append(l, Entry{Key: k, Value: v, Batch: batch})
	}
	return l
}

func check(t *testing.T, what string, next Next, want string) {
	t.Helper()
	l, err := Collect(next)
	if err != nil || !slices.Equal(l, read(want)) {
		t.Errorf("%s: %v, %v, want %s", what, l, err, want)
	}
}

func TestList(t *testing.T) {
	var l List
	one := l.With(read("b=1@1 a=2@1 c=3@1 b=4@1"))
	two := one.With(read("a=7@2 -a@2 d=5@2"))
	check(t, "nothing", l.From(""), "")
	check(t, "one batch", one.From(""), "a=2@1 b=4@1 c=3@1")
	check(t, "two batches", two.From(""), "-a@2 a=2@1 b=4@1 c=3@1 d=5@2")
	check(t, "from a", two.From("a"), "-a@2 a=2@1 b=4@1 c=3@1 d=5@2")
	check(t, "from b", two.From("b"), "b=4@1 c=3@1 d=5@2")
	check(t, "from bb", two.From("bb"), "c=3@1 d=5@2")
	check(t, "from e", two.From("e"), "")
	if !two.Sorted() || !List(read("a=@2 a=@1")).Sorted() {
		t.Error("what is sorted is not")
	}
	for _, s := range []string{"a= a=", "a=@1 a=@2", "b= a=", "b=@1 a=@2"} {
		if List(read(s)).Sorted() {
			t.Errorf("%s is sorted", s)
		}
	}
}

func TestFind(t *testing.T) {
	l := List(read("a=3@3 a=2@2 -b@9 b=5@5 b=1@1 d=2@2"))
	for _, c := range []struct {
		key   string
		batch uint64
		want  string
	}{
		{"a", 0, ""}, {"a", 1, ""}, {"a", 2, "a=2@2"}, {"a", 3, "a=3@3"}, {"a", math.MaxUint64, "a=3@3"},
		{"b", 0, ""}, {"b", 1, "b=1@1"}, {"b", 4, "b=1@1"}, {"b", 5, "b=5@5"}, {"b", 8, "b=5@5"}, {"b", 9, "-b@9"},
		{"", 9, ""}, {"aa", 9, ""}, {"c", 9, ""}, {"d", 1, ""}, {"d", 2, "d=2@2"}, {"e", 9, ""},
	} {
		var got List
		e, ok, err := l.Find(c.key, c.batch)
		if ok {
			got = append(got, e)
		}
		if !slices.Equal(got, read(c.want)) || !ok && e != (Entry{}) || err != nil {
			t.Errorf("Find(%q, %d): %v, %v, %v, want %q", c.key, c.batch, e, ok, err, c.want)
		}
	}
}

func TestKeys(t *testing.T) {
	for _, want := range []string{"", "a=@1", "a=@2 a=@1", "a=@1/b=@1", "a=@3 a=@2 a=@1/b=@1/c=@2 c=@1"} {
		var got []string
		keys := List(read(strings.ReplaceAll(want, "/", " "))).Keys()
		for range 2 {
			got = nil
			for l := range keys {
				s := ""
				for _, e := range l {
					s += " " + e.Key + "=@" + strconv.FormatUint(e.Batch, 10)
				}
				got = append(got, s[1:])
			}
		}
		if s := strings.Join(got, "/"); s != want {
			t.Errorf("%q, want %q", s, want)
		}
		for range keys {
			break
		}
	}
}

func TestNeeded(t *testing.T) {
	const all = "a=9@9 a=7@7 -a@5 a=3@3 b=4@4 -c@8 c=2@2"
	for _, c := range []struct {
		moments []uint64
		want    string
	}{
		{nil, "a=9@9 b=4@4 -c@8"},
		{[]uint64{0}, "a=9@9 b=4@4 -c@8"},
		{[]uint64{2}, "a=9@9 b=4@4 -c@8 c=2@2"},
		{[]uint64{4}, "a=9@9 a=3@3 b=4@4 -c@8 c=2@2"},
		{[]uint64{5}, "a=9@9 -a@5 b=4@4 -c@8 c=2@2"},
		{[]uint64{6, 6}, "a=9@9 -a@5 b=4@4 -c@8 c=2@2"},
		{[]uint64{8}, "a=9@9 a=7@7 b=4@4 -c@8"},
		{[]uint64{9}, "a=9@9 b=4@4 -c@8"},
		{[]uint64{math.MaxUint64}, "a=9@9 b=4@4 -c@8"},
		{[]uint64{3, 5, 7, 9}, "a=9@9 a=7@7 -a@5 a=3@3 b=4@4 -c@8 c=2@2"},
		{[]uint64{9, 7, 5, 3}, "a=9@9 a=7@7 -a@5 a=3@3 b=4@4 -c@8 c=2@2"},
	} {
		l := List(read(all))
		if got := l.Needed(c.moments); !slices.Equal(got, read(c.want)) || !slices.Equal(l, read(all)) {
			t.Errorf("at %v: %v, want %s", c.moments, got, c.want)
		}
	}
}

// TestNeededAtRandom: what is left answers as all did, now and at the moments, and there is no more than one entry for each.
func TestNeededAtRandom(t *testing.T) {
	r := rand.New(rand.NewSource(1))
	for range 500 {
		var l List
		for batch := range uint64(1 + r.Intn(20)) {
			l = l.With([]Entry{{Key: string(rune('a' + r.Intn(3))), Batch: batch, Deleted: r.Intn(3) == 0}})
		}
		var moments []uint64
		for range r.Intn(4) {
			moments = append(moments, uint64(r.Intn(20)))
		}
		n := l.Needed(moments)
		for _, at := range append(moments, math.MaxUint64) {
			want, _ := Collect(Present(At([]Row{l}, "", at)))
			for _, x := range []List{n, n.Bare()} {
				if got, _ := Collect(Present(At([]Row{x}, "", at))); !slices.Equal(got, want) {
					t.Fatalf("%v, of it needed at %v: %v: at %d it is %v, want %v", l, moments, n, at, got, want)
				}
			}
		}
		for versions := range n.Keys() {
			if len(versions) > 1+len(moments) {
				t.Fatalf("needed at %v: %v", moments, versions)
			}
		}
	}
}

func TestBare(t *testing.T) {
	for s, want := range map[string]string{
		"":                         "",
		"-a@1":                     "",
		"-a@2 -a@1 b=@1":           "b=@1",
		"a=2@2 -a@1":               "a=2@2",
		"-a@2 a=@1":                "-a@2 a=@1",
		"-a@5 a=@4 -a@3 -a@2 b=@2": "-a@5 a=@4 b=@2",
	} {
		l := List(read(s))
		if got := l.Bare(); !slices.Equal(got, read(want)) || !slices.Equal(l, read(s)) {
			t.Errorf("%q: %v, want %q", s, got, want)
		}
	}
}

func TestAt(t *testing.T) {
	l := []Row{List(read("-a@9 a=8@8 c=9@9")), List(read("a=5@5 b=5@5 b=4@4")), List(read("a=1@1 c=1@1 d=1@1")), List(nil)}
	for range 2 {
		check(t, "From", From(l, ""), "-a@9 a=8@8 a=5@5 a=1@1 b=5@5 b=4@4 c=9@9 c=1@1 d=1@1")
		check(t, "From b", From(l, "b"), "b=5@5 b=4@4 c=9@9 c=1@1 d=1@1")
		check(t, "At 9", At(l, "", 9), "-a@9 b=5@5 c=9@9 d=1@1")
		check(t, "At 9 from b", At(l, "b", math.MaxUint64), "b=5@5 c=9@9 d=1@1")
		check(t, "At 8", At(l, "", 8), "a=8@8 b=5@5 c=1@1 d=1@1")
		check(t, "At 4", At(l, "", 4), "a=1@1 b=4@4 c=1@1 d=1@1")
		check(t, "At 0", At(l, "", 0), "")
		check(t, "Present", Present(At(l, "", 9)), "b=5@5 c=9@9 d=1@1")
		slices.Reverse(l) // the rows may have any order
	}
	check(t, "no row", At(nil, "", 9), "")
}

func TestMergeAtRandom(t *testing.T) {
	r := rand.New(rand.NewSource(1))
	for range 200 {
		want := map[string]Entry{}
		var l []Row
		for batch := range uint64(r.Intn(6)) {
			var row List
			for range r.Intn(12) {
				e := Entry{Key: string(rune('a' + r.Intn(9))), Value: strconv.Itoa(r.Intn(99)), Batch: batch}
				row = row.With([]Entry{e})
				want[e.Key] = e
			}
			l = append(l, row)
		}
		got, err := Collect(At(l, "", math.MaxUint64))
		if err != nil || len(got) != len(want) || !got.Sorted() {
			t.Fatalf("%v, %v, want %v", got, err, want)
		}
		for _, e := range got {
			if e != want[e.Key] {
				t.Fatalf("%v, want %v", e, want[e.Key])
			}
		}
	}
}

// counted is a row that counts how often it was asked, and fails at a time.
func counted(l List, n *int, fails int) Next {
	next := l.From("")
	return func() (Entry, bool, error) {
		*n++
		if *n == fails {
			return Entry{}, false, errors.New("it fails")
		}
		return next()
	}
}

func TestMergeAsksLate(t *testing.T) {
	n := 0
	next := Merge([]Next{counted(List(read("a= b= c=")), &n, 0)})
	for i := range 3 {
		if next(); n != i+1 {
			t.Errorf("%d entries were taken, and %d asked for", i+1, n)
		}
	}
}

func TestMergeFails(t *testing.T) {
	n := 0
	next := Merge([]Next{counted(List(read("a= c=")), &n, 2), List(read("b=")).From("")})
	if e, ok, err := next(); e.Key != "a" || !ok || err != nil {
		t.Errorf("ahead of the error: %v, %v, %v", e, ok, err)
	}
	if e, ok, err := next(); e != (Entry{}) || ok || err == nil {
		t.Errorf("the error: %v, %v, %v", e, ok, err)
	}
	n = 0
	if l, err := Collect(counted(List(read("a= b=")), &n, 2)); l != nil || err == nil {
		t.Errorf("Collect: %v, %v", l, err)
	}
}

func TestEach(t *testing.T) {
	n := 0
	for e, err := range Each(List(read("a= b= c=")).From("")) {
		if n++; err != nil || e.Key == "b" {
			break
		}
	}
	if n != 2 {
		t.Errorf("Each went on %d times, want 2", n)
	}
}

func TestChain(t *testing.T) {
	l := []List{read("a= b="), nil, nil, read("c=")}
	opened := 0
	next := Chain(len(l), func(i int) (Next, error) {
		opened++
		return l[i].From(""), nil
	})
	if next(); opened != 1 {
		t.Errorf("%d rows are open, want 1", opened)
	}
	check(t, "Chain", next, "b= c=")
	check(t, "no rows", Chain(0, nil), "")
	failed := Chain(1, func(int) (Next, error) { return nil, errors.New("it fails") })
	for range 2 {
		if e, ok, err := failed(); e != (Entry{}) || ok || err == nil {
			t.Errorf("a row that can't be opened: %v, %v, %v", e, ok, err)
		}
	}
}

func TestEntry(t *testing.T) {
	for _, e := range []Entry{{Key: "a"}, {Key: "12345678", Value: "1234567890123456"}, {Key: "\x00", Value: "\xff"}, {Key: "a", Deleted: true}} {
		r := code.NewReader(Put(nil, e))
		if got, ok := Take(r); got != e || !ok || !r.Done() {
			t.Errorf("%v is read back as %v, %v", e, got, ok)
		}
	}
	for _, s := range []string{"", "\x00", "\x00\x01a", "\x00\x00\x00", "\x02\x01a\x00", "\x01\x01a\x01b", "\x00\x09123456789\x00", "\x00\x01a\x1112345678901234567", "\x00\x01a\x03ab"} {
		if e, ok := Take(code.NewReader([]byte(s))); ok || e != (Entry{}) {
			t.Errorf("%q is read as %v", s, e)
		}
	}
}

func TestBounds(t *testing.T) {
	for n, want := range []bool{false, true, true, true, true, true, true, true, true, false} {
		if got := IsKey(strings.Repeat("k", n)); got != want {
			t.Errorf("a key of %d bytes: %v", n, got)
		}
	}
	if !IsValue("") || !IsValue(strings.Repeat("v", 16)) || IsValue(strings.Repeat("v", 17)) {
		t.Error("IsValue")
	}
}
