package tables

import (
	"errors"
	"fmt"
	"math"
	"math/rand"
	"slices"
	"testing"
	"unsafe"

	"levels/api"
	"levels/code"
	"levels/files"
	"levels/rows"
)

// some is n entries, from the one at first on; each has a key of its own.
func some(first, n int) rows.List {
	var l rows.List
	for i := first; i < first+n; i++ {
		e := rows.Entry{Key: fmt.Sprintf("k%07d", 2*i), Value: fmt.Sprintf("value %010d", i), Batch: uint64(i)}
		if i%5 == 4 {
			e.Value, e.Deleted = "", true
		}
		l = append(l, e)
	}
	return l
}

// made makes a table, and opens it again by its mark.
func made(t *testing.T, d *api.Disk, number uint64, l rows.List) *Table {
	t.Helper()
	m := New(l)
	if err := m.Write(d, number); err != nil || !m.Written() {
		t.Fatal(err)
	}
	o, err := Open(d, m.Mark())
	if err != nil {
		t.Fatal(err)
	}
	return o
}

func TestTable(t *testing.T) {
	for _, n := range []int{1, 2, 13, 14, 15, 28, 29, api.MaxCount} {
		d := api.NewDisk(1 << 20)
		want := some(0, n)
		x := made(t, d, 3, want)
		if x.Name() != "table-3" || x.Count() != n || x.First() != want[0].Key || x.Last() != want[n-1].Key {
			t.Errorf("%d entries: %q has %d, from %q to %q", n, x.Name(), x.Count(), x.First(), x.Last())
		}
		if got, err := rows.Collect(x.From("")); err != nil || !slices.Equal(got, want) {
			t.Errorf("%d entries: %v, %v", n, got, err)
		}
		for i, e := range want {
			d.Counts()
			if got, ok, err := x.Find(e.Key, math.MaxUint64); got != e || !ok || err != nil {
				t.Errorf("Find(%q): %v, %v, %v", e.Key, got, ok, err)
			}
			if reads, most := d.Counts(); reads != 1 || most > api.MaxBlock {
				t.Errorf("Find(%q): %d reads of up to %d bytes", e.Key, reads, most)
			}
			if got, err := rows.Collect(x.From(e.Key)); err != nil || !slices.Equal(got, want[i:]) {
				t.Errorf("From(%q): %v, %v", e.Key, got, err)
			}
			key := e.Key + "x"
			if got, ok, err := x.Find(key, math.MaxUint64); got != (rows.Entry{}) || ok || err != nil {
				t.Errorf("Find(%q): %v, %v, %v", key, got, ok, err)
			}
			if got, err := rows.Collect(x.From(key)); err != nil || !slices.Equal(got, want[i+1:]) {
				t.Errorf("From(%q): %v, %v", key, got, err)
			}
		}
		d.Counts()
		for i, k := range x.blocks {
			for _, key := range []string{"a", k.last + "x"} {
				if _, ok, err := x.Find(key, math.MaxUint64); ok || err != nil {
					t.Errorf("block %d: Find(%q): %v, %v", i, key, ok, err)
				}
			}
		}
		if reads, _ := d.Counts(); reads > 0 {
			t.Errorf("keys that are in no block: %d reads", reads)
		}
	}
}

// versions is n keys with as many entries each as times tells, in turn.
func versions(n int, times ...int) rows.List {
	var l rows.List
	for i, e := range some(0, n) {
		for j := range times[i%len(times)] {
			e.Deleted, e.Batch = false, uint64(1000-10*j)
			l = append(l, e)
		}
	}
	return l
}

// TestVersions: all entries of a key are found, in one read.
func TestVersions(t *testing.T) {
	for _, times := range [][]int{{5}, {4}, {1, 5}, {5, 2, 1, 3}} {
		d := api.NewDisk(1 << 20)
		want := versions(20, times...)
		x := made(t, d, 3, want)
		if got, err := rows.Collect(x.From("")); err != nil || !slices.Equal(got, want) || x.Count() != len(want) {
			t.Errorf("%v: %d entries, %v, %v", times, x.Count(), got, err)
		}
		d.Counts()
		for i, e := range want {
			for batch := e.Batch; batch < e.Batch+10; batch++ {
				if got, ok, err := x.Find(e.Key, batch); got != e || !ok || err != nil {
					t.Errorf("Find(%q, %d): %v, %v, %v", e.Key, batch, got, ok, err)
				}
				if reads, most := d.Counts(); reads != 1 || most > api.MaxBlock {
					t.Errorf("Find(%q, %d): %d reads of up to %d bytes", e.Key, batch, reads, most)
				}
			}
			first := i - slices.IndexFunc(want, func(o rows.Entry) bool { return o.Key == e.Key })
			if got, err := rows.Collect(x.From(e.Key)); err != nil || !slices.Equal(got, want[i-first:]) {
				t.Errorf("From(%q): %v, %v", e.Key, got, err)
			}
			if got, ok, err := x.Find(e.Key, 900); got != (rows.Entry{}) || ok || err != nil {
				t.Errorf("Find(%q, 900): %v, %v, %v", e.Key, got, ok, err)
			}
			d.Counts()
		}
	}
}

// TestSplit: no table has too many entries, none has few if others have many, and none shares a key with another.
func TestSplit(t *testing.T) {
	for _, times := range [][]int{{1}, {5}, {1, 1, 5}, {2, 3}, {5, 4, 3, 2, 1}} {
		for n := range 500 {
			l := versions(n, times...)
			parts := Split(l)
			var all rows.List
			for i, p := range parts {
				if len(p) > api.MaxCount || len(p) < len(l)/len(parts)-api.MaxSnaps {
					t.Errorf("%d entries in %d tables: one of %d", len(l), len(parts), len(p))
				}
				if i > 0 && all[len(all)-1].Key == p[0].Key {
					t.Errorf("%d entries: %q is in two tables", len(l), p[0].Key)
				}
				all = append(all, p...)
			}
			if !slices.Equal(all, l) {
				t.Errorf("%d entries: the tables have others", len(l))
			}
		}
	}
}

// TestNew: a table that is not written yet has the same entries.
func TestNew(t *testing.T) {
	want := some(0, 40)
	x := New(want)
	if got, err := rows.Collect(x.From("")); err != nil || !slices.Equal(got, want) || x.Written() {
		t.Errorf("%v, %v, written %v", got, err, x.Written())
	}
	if got, ok, err := x.Find(want[20].Key, math.MaxUint64); got != want[20] || !ok || err != nil {
		t.Errorf("Find: %v, %v, %v", got, ok, err)
	}
}

// level makes tables side by side, with room between them.
func level(t *testing.T, d *api.Disk) (Level, rows.List) {
	var l Level
	var all rows.List
	for i, n := range []int{30, 1, 20} {
		part := some(100*i, n)
		l = append(l, made(t, d, uint64(10+i), part))
		all = append(all, part...)
	}
	return l, all
}

func TestLevel(t *testing.T) {
	d := api.NewDisk(1 << 20)
	l, all := level(t, d)
	if !l.apart() || l.Count() != 51 || len(l.Marks()) != 3 || l.Marks()[2] != l[2].Mark() {
		t.Errorf("apart %v, %d entries, %v", l.apart(), l.Count(), l.Marks())
	}
	if (Level{l[1], l[0]}).apart() || (Level{l[0], l[0]}).apart() {
		t.Error("tables that are not apart are so")
	}
	for i, e := range all {
		d.Counts()
		if got, ok, err := l.Find(e.Key, math.MaxUint64); got != e || !ok || err != nil {
			t.Errorf("Find(%q): %v, %v, %v", e.Key, got, ok, err)
		}
		if reads, _ := d.Counts(); reads != 1 {
			t.Errorf("Find(%q): %d reads", e.Key, reads)
		}
		if got, err := rows.Collect(l.From(e.Key)); err != nil || !slices.Equal(got, all[i:]) {
			t.Errorf("From(%q): %v, %v", e.Key, got, err)
		}
	}
	for _, key := range []string{"a", "k0000001", "k0000100", "z"} {
		if e, ok, err := l.Find(key, math.MaxUint64); ok || e != (rows.Entry{}) || err != nil {
			t.Errorf("Find(%q): %v, %v, %v", key, e, ok, err)
		}
	}
	if _, ok, err := (Level{}).Find("a", math.MaxUint64); ok || err != nil {
		t.Errorf("a level without tables: %v, %v", ok, err)
	}
}

func TestCut(t *testing.T) {
	l, _ := level(t, api.NewDisk(1<<20))
	for _, c := range []struct {
		first, last   string
		before, until int
	}{
		{"a", "b", 0, 0},
		{"a", "z", 0, 3},
		{"a", l[0].First(), 0, 1},
		{l[0].Last(), l[1].First(), 0, 2},
		{l[0].Last() + "x", l[1].First(), 1, 2},
		{l[0].Last() + "x", l[0].Last() + "y", 1, 1},
		{l[1].Last(), l[1].Last(), 1, 2},
		{"z", "zz", 3, 3},
	} {
		before, within, behind := l.Cut(c.first, c.last)
		if len(before) != c.before || len(before)+len(within) != c.until || !slices.Equal(slices.Concat(before, within, behind), l) {
			t.Errorf("Cut(%q, %q): %d, %d, %d", c.first, c.last, len(before), len(within), len(behind))
		}
	}
}

func TestLevels(t *testing.T) {
	d := api.NewDisk(1 << 20)
	old, young, deep := made(t, d, 2, some(0, 3)), made(t, d, 3, some(0, 2)), made(t, d, 4, some(0, 9))
	l := Levels{0: {old, young}, 2: {deep}}
	r := l.Rows()
	if len(r) != 5 || r[0] != rows.Row(young) || r[1] != rows.Row(old) {
		t.Errorf("%d rows, or not the newest first", len(r))
	}
	if l.Empty(0) || l.Empty(2) || !l.Empty(3) || len(l.Tables()) != 3 {
		t.Error("Empty, or Tables")
	}
	var marks [api.MaxLevels][]Mark
	for i := range l {
		marks[i] = l[i].Marks()
	}
	o, err := OpenLevels(d, marks)
	if err != nil || len(o[0]) != 2 || o[0][1].Count() != 2 || len(o[2]) != 1 {
		t.Errorf("opened: %v, %v", o, err)
	}
	marks[1] = marks[0]
	if _, err := OpenLevels(d, marks); !errors.Is(err, api.ErrCorrupt) {
		t.Errorf("two tables of level 1 with the same keys: %v", err)
	}
	d.Remove(deep.Name())
	marks[1] = nil
	if o, err := OpenLevels(d, marks); !errors.Is(err, api.ErrMissing) || !o.Empty(0) {
		t.Errorf("a table that is gone: %v", err)
	}
}

// TestShape: what is told of the tables, in texts of its own; a level without tables has its list.
func TestShape(t *testing.T) {
	d := api.NewDisk(1 << 20)
	l := Levels{0: {made(t, d, 7, some(0, 3)), made(t, d, 9, versions(1, 5))}, 2: {made(t, d, 8, some(5, api.MaxCount))}}
	want := [][]api.Table{
		{{Name: "table-7", First: "k0000000", Last: "k0000004", Count: 3}, {Name: "table-9", First: "k0000000", Last: "k0000000", Count: 5}},
		{},
		{{Name: "table-8", First: "k0000010", Last: "k0000208", Count: api.MaxCount}},
		{},
	}
	for range 2 {
		got := l.Shape()
		if !slices.EqualFunc(got, want, slices.Equal) {
			t.Errorf("%v, want %v", got, want)
		}
		for _, x := range slices.Concat(got...) {
			*unsafe.StringData(x.First), *unsafe.StringData(x.Last) = 'x', 'x'
		}
	}
}

func TestAsFilled(t *testing.T) {
	l := Levels{0: {New(some(0, 3))}, 3: {New(some(0, 9)), New(some(20, 4))}}
	same := Levels{0: {New(some(9, 3))}, 3: {New(some(0, 4)), New(some(20, 9))}}
	if !l.AsFilled(&same) {
		t.Error("levels that are as filled are not")
	}
	for i, o := range []Levels{
		{},
		{0: l[0]},
		{1: l[0], 3: l[3]},
		{0: {New(some(0, 4))}, 3: l[3]},
		{0: l[0], 3: {New(some(0, 13))}},
		{0: l[0], 3: {New(some(0, 9)), New(some(20, 5))}},
	} {
		if l.AsFilled(&o) || o.AsFilled(&l) {
			t.Errorf("levels %d are as filled", i)
		}
	}
}

// TestFlipped: wherever a bit is turned, it is noticed when the table is opened or the place is read.
func TestFlipped(t *testing.T) {
	d := api.NewDisk(1 << 20)
	want := some(0, 20)
	x := made(t, d, 3, want)
	n, _ := d.Size(x.Name())
	for bit := range uint(8 * n) {
		c := d.Copy()
		c.Flip(x.Name(), bit)
		y, err := Open(c, x.Mark())
		if err == nil {
			_, err = rows.Collect(y.From(""))
		}
		var f *api.FileError
		if !errors.Is(err, api.ErrCorrupt) || !errors.As(err, &f) || f.Name != x.Name() {
			t.Errorf("bit %d of %d was turned: %v", bit, 8*n, err)
		}
		if err := found(y, want); err != nil {
			t.Errorf("bit %d of %d was turned: %v", bit, 8*n, err)
		}
	}
}

// found tells whether each entry is found, or ErrCorrupt answered.
func found(x *Table, want rows.List) error {
	if x == nil {
		return nil
	}
	for _, e := range want {
		got, ok, err := x.Find(e.Key, math.MaxUint64)
		if !errors.Is(err, api.ErrCorrupt) && (got != e || !ok || err != nil) {
			return fmt.Errorf("Find(%q): %v, %v, %v", e.Key, got, ok, err)
		}
	}
	return nil
}

func TestFails(t *testing.T) {
	d := api.NewDisk(1 << 20)
	x := made(t, d, 3, some(0, 20))
	d.Fail(0, 1)
	if _, _, err := x.Find(x.First(), math.MaxUint64); !errors.Is(err, api.ErrDisk) {
		t.Errorf("Find: %v", err)
	}
	d.Fail(1, 1)
	if l, err := rows.Collect(x.From("")); l != nil || !errors.Is(err, api.ErrDisk) {
		t.Errorf("From: %v, %v", l, err)
	}
	d.Fail(0, 1)
	if _, err := Open(d, x.Mark()); !errors.Is(err, api.ErrDisk) {
		t.Errorf("Open: %v", err)
	}
	for after := range 3 {
		d.Fail(after, 1)
		if err := New(some(0, 1)).Write(d, uint64(90+after)); !errors.Is(err, api.ErrDisk) {
			t.Errorf("Write: %v", err)
		}
	}
	if err := New(some(0, 1)).Write(d, 3); !errors.Is(err, api.ErrExists) {
		t.Errorf("a table that is there: %v", err)
	}
}

// open opens a table of any bytes whose sums fit.
func open(t *testing.T, data, index []byte) (*Table, error) {
	d := api.NewDisk(1 << 20)
	if err := files.Write(d, files.Table(3), slices.Concat(data, index)); err != nil {
		t.Fatal(err)
	}
	return Open(d, Mark{Number: 3, At: uint32(len(data)), Size: uint32(len(index)), Sum: code.Sum(index)})
}

// TestOther: bytes that no table has, though the sums fit.
func TestOther(t *testing.T) {
	l := some(0, 4)
	data, blocks := putBlocks(l)
	if _, err := open(t, data, putIndex(blocks)); err != nil {
		t.Fatal(err)
	}
	good := blocks[0]
	bad := [][]block{nil, {good, good}}
	for _, change := range []func(k *block){
		func(k *block) { k.size++ },
		func(k *block) { k.size = api.MaxBlock + 1 },
		func(k *block) { k.count = 0 },
		func(k *block) { k.count = api.MaxCount + 1 },
		func(k *block) { k.first = "" },
		func(k *block) { k.first = "123456789" },
		func(k *block) { k.first, k.last = k.last, k.first },
	} {
		k := good
		change(&k)
		bad = append(bad, []block{k})
	}
	for i, b := range bad {
		if _, err := open(t, data, putIndex(b)); !errors.Is(err, api.ErrCorrupt) {
			t.Errorf("index %d: %v", i, err)
		}
	}
	if _, err := open(t, nil, putIndex(nil)); !errors.Is(err, api.ErrCorrupt) {
		t.Errorf("a table without blocks: %v", err)
	}
	for i, change := range []func(k *block){
		func(k *block) { k.count++ },
		func(k *block) { k.count-- },
		func(k *block) { k.first = "a" },
		func(k *block) { k.last = "z" },
	} {
		k := good
		change(&k)
		x, err := open(t, data, putIndex([]block{k}))
		if err != nil {
			t.Fatal(err)
		}
		if _, _, err := x.Find(l[1].Key, math.MaxUint64); !errors.Is(err, api.ErrCorrupt) {
			t.Errorf("block %d: %v", i, err)
		}
	}
	slices.Reverse(l)
	data, blocks = putBlocks(l)
	blocks[0].first, blocks[0].last = blocks[0].last, blocks[0].first
	if x, err := open(t, data, putIndex(blocks)); err != nil {
		t.Error(err)
	} else if _, _, err := x.Find(l[1].Key, math.MaxUint64); !errors.Is(err, api.ErrCorrupt) {
		t.Errorf("entries that are not sorted: %v", err)
	}
}

func TestAnyBytes(t *testing.T) {
	r := rand.New(rand.NewSource(1))
	for range 3000 {
		data, index := make([]byte, r.Intn(60)), make([]byte, r.Intn(40))
		r.Read(data)
		r.Read(index)
		data = code.Seal(data)
		if r.Intn(2) == 0 {
			index = putIndex([]block{{0, len(data), 1 + r.Intn(3), "a", "b"}})
		}
		if x, err := open(t, data, index); err == nil {
			x.Find("a", math.MaxUint64)
			rows.Collect(x.From(""))
		}
	}
}
