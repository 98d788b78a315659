package rows

import (
	"errors"
	"math/rand"
	"slices"
	"strconv"
	"strings"
	"testing"

	"levels/code"
)

// read makes entries of a text: key=value@batch or -key@batch, with blanks between.
func read(s string) []Entry {
	var l []Entry
	for _, w := range strings.Fields(s) {
		w, n, _ := strings.Cut(w, "@")
		batch, _ := strconv.ParseUint(n, 10, 64)
		if k, ok := strings.CutPrefix(w, "-"); ok {
			l = append(l, Entry{Key: k, Deleted: true, Batch: batch})
			continue
		}
		k, v, _ := strings.Cut(w, "=")
		l = append(l, Entry{Key: k, Value: v, Batch: batch})
	}
	return l
}

func check(t *testing.T, what string, next Next, want string) {
	t.Helper()
	l, err := Collect(next)
	if err != nil || !slices.Equal(l, read(want)) {
		t.Errorf("%s: %v, %v, want %s", what, l, err, want)
	}
}

func TestList(t *testing.T) {
	var l List
	one := l.With(read("b=1@1 a=2@1 c=3@1 b=4@1"))
	two := one.With(read("-a@2 d=5@2"))
	check(t, "nothing", l.From(""), "")
	check(t, "one batch", one.From(""), "a=2@1 b=4@1 c=3@1")
	check(t, "two batches", two.From(""), "-a@2 b=4@1 c=3@1 d=5@2")
	check(t, "from b", two.From("b"), "b=4@1 c=3@1 d=5@2")
	check(t, "from bb", two.From("bb"), "c=3@1 d=5@2")
	check(t, "from e", two.From("e"), "")
	if e, ok, err := two.Find("a"); !ok || !e.Deleted || err != nil {
		t.Errorf("Find(a): %v, %v, %v", e, ok, err)
	}
	if e, ok, err := two.Find("bb"); ok || e != (Entry{}) || err != nil {
		t.Errorf("Find(bb): %v, %v, %v", e, ok, err)
	}
	if !two.Sorted() || List(read("a= a=")).Sorted() || List(read("b= a=")).Sorted() {
		t.Error("Sorted")
	}
}

func TestNewest(t *testing.T) {
	l := []Row{List(read("-a@9 c=9@9")), List(read("a=5@5 b=5@5")), List(read("a=1@1 c=1@1 d=1@1")), List(nil)}
	check(t, "Newest", Newest(l, ""), "-a@9 b=5@5 c=9@9 d=1@1")
	check(t, "Newest from b", Newest(l, "b"), "b=5@5 c=9@9 d=1@1")
	check(t, "Present", Present(Newest(l, "")), "b=5@5 c=9@9 d=1@1")
	check(t, "no row", Newest(nil, ""), "")
	slices.Reverse(l)
	check(t, "Newest, whatever the rows' order", Newest(l, ""), "-a@9 b=5@5 c=9@9 d=1@1")
}

func TestMergeAtRandom(t *testing.T) {
	r := rand.New(rand.NewSource(1))
	for range 200 {
		want := map[string]Entry{}
		var l []Row
		for batch := range uint64(r.Intn(6)) {
			var row List
			for range r.Intn(12) {
				e := Entry{Key: string(rune('a' + r.Intn(9))), Value: strconv.Itoa(r.Intn(99)), Batch: batch}
				row = row.With([]Entry{e})
				want[e.Key] = e
			}
			l = append(l, row)
		}
		got, err := Collect(Newest(l, ""))
		if err != nil || len(got) != len(want) || !got.Sorted() {
			t.Fatalf("%v, %v, want %v", got, err, want)
		}
		for _, e := range got {
			if e != want[e.Key] {
				t.Fatalf("%v, want %v", e, want[e.Key])
			}
		}
	}
}

// counted is a row that counts how often it was asked, and fails at a time.
func counted(l List, n *int, fails int) Next {
	next := l.From("")
	return func() (Entry, bool, error) {
		*n++
		if *n == fails {
			return Entry{}, false, errors.New("it fails")
		}
		return next()
	}
}

func TestMergeAsksLate(t *testing.T) {
	n := 0
	next := Merge([]Next{counted(List(read("a= b= c=")), &n, 0)})
	for i := range 3 {
		if next(); n != i+1 {
			t.Errorf("%d entries were taken, and %d asked for", i+1, n)
		}
	}
}

func TestMergeFails(t *testing.T) {
	n := 0
	next := Merge([]Next{counted(List(read("a= c=")), &n, 2), List(read("b=")).From("")})
	if e, ok, err := next(); e.Key != "a" || !ok || err != nil {
		t.Errorf("ahead of the error: %v, %v, %v", e, ok, err)
	}
	if e, ok, err := next(); e != (Entry{}) || ok || err == nil {
		t.Errorf("the error: %v, %v, %v", e, ok, err)
	}
	n = 0
	if l, err := Collect(counted(List(read("a= b=")), &n, 2)); l != nil || err == nil {
		t.Errorf("Collect: %v, %v", l, err)
	}
}

func TestEach(t *testing.T) {
	n := 0
	for e, err := range Each(List(read("a= b= c=")).From("")) {
		if n++; err != nil || e.Key == "b" {
			break
		}
	}
	if n != 2 {
		t.Errorf("Each went on %d times, want 2", n)
	}
}

func TestChain(t *testing.T) {
	l := []List{read("a= b="), nil, nil, read("c=")}
	opened := 0
	next := Chain(len(l), func(i int) (Next, error) {
		opened++
		return l[i].From(""), nil
	})
	if next(); opened != 1 {
		t.Errorf("%d rows are open, want 1", opened)
	}
	check(t, "Chain", next, "b= c=")
	check(t, "no rows", Chain(0, nil), "")
	failed := Chain(1, func(int) (Next, error) { return nil, errors.New("it fails") })
	for range 2 {
		if e, ok, err := failed(); e != (Entry{}) || ok || err == nil {
			t.Errorf("a row that can't be opened: %v, %v, %v", e, ok, err)
		}
	}
}

func TestEntry(t *testing.T) {
	for _, e := range []Entry{{Key: "a"}, {Key: "12345678", Value: "1234567890123456"}, {Key: "\x00", Value: "\xff"}, {Key: "a", Deleted: true}} {
		r := code.NewReader(Put(nil, e))
		if got, ok := Take(r); got != e || !ok || !r.Done() {
			t.Errorf("%v is read back as %v, %v", e, got, ok)
		}
	}
	for _, s := range []string{"", "\x00", "\x00\x01a", "\x00\x00\x00", "\x02\x01a\x00", "\x01\x01a\x01b", "\x00\x09123456789\x00", "\x00\x01a\x1112345678901234567", "\x00\x01a\x03ab"} {
		if e, ok := Take(code.NewReader([]byte(s))); ok || e != (Entry{}) {
			t.Errorf("%q is read as %v", s, e)
		}
	}
}

func TestBounds(t *testing.T) {
	for n, want := range []bool{false, true, true, true, true, true, true, true, true, false} {
		if got := IsKey(strings.Repeat("k", n)); got != want {
			t.Errorf("a key of %d bytes: %v", n, got)
		}
	}
	if !IsValue("") || !IsValue(strings.Repeat("v", 16)) || IsValue(strings.Repeat("v", 17)) {
		t.Error("IsValue")
	}
}
