package tables

import (
	"errors"
	"slices"
	"testing"

	"levels/api"
	"levels/rows"
)

// of is a table of these keys, set or deleted by a batch.
func of(batch uint64, deleted bool, keys ...string) *Table {
	var l rows.List
	for _, k := range keys {
		l = append(l, rows.Entry{Key: k, Deleted: deleted, Batch: batch})
	}
	return New(l)
}

// keys is the keys of a level, with a minus ahead of those that are deleted.
func keys(t *testing.T, l Level) string {
	t.Helper()
	list, err := rows.Collect(l.From(""))
	if err != nil {
		t.Fatal(err)
	}
	s := ""
	for _, e := range list {
		if e.Deleted {
			s += "-"
		}
		s += e.Key
	}
	return s
}

// TestDownFirst: level 0 goes whole, and the newest entry of each key holds.
func TestDownFirst(t *testing.T) {
	for _, c := range []struct {
		deep Level
		want string
	}{{nil, "acdxz"}, {Level{of(1, false, "m")}, "a-bcdxz"}} {
		l := Levels{
			0: {of(3, false, "b", "c"), of(4, true, "b", "d"), of(5, false, "d")},
			1: {of(2, false, "a", "b"), of(2, false, "x", "z")},
			3: c.deep,
		}
		was := l
		n, err := l.Down(0, nil)
		if err != nil || len(n[0]) != 0 || len(n[1]) != 1 || keys(t, n[1]) != c.want || len(n[3]) != len(c.deep) {
			t.Errorf("level 1 has %q, %v, want %q", keys(t, n[1]), err, c.want)
		}
		if len(l[0]) != 3 || !slices.Equal(l[1], was[1]) {
			t.Error("the levels of before are changed")
		}
	}
}

// TestDownOne: of another level the table goes that has the least to do with the next one; what it does not touch stays.
func TestDownOne(t *testing.T) {
	l := Levels{
		1: {of(5, false, "b", "f"), of(5, true, "j", "k"), of(5, false, "t", "x")},
		2: {of(4, false, "a"), of(4, false, "c", "d"), of(4, false, "e", "g"), of(4, false, "i", "j"), of(4, false, "s", "u", "v", "y")},
	}
	one, _ := l.Down(1, nil)
	if keys(t, one[1]) != "bftx" || keys(t, one[2]) != "acdegisuvy" {
		t.Errorf("behind the first merge: %q, %q", keys(t, one[1]), keys(t, one[2]))
	}
	if !slices.Equal(one[2][:3], l[2][:3]) || !slices.Equal(one[2][4:], l[2][4:]) || one[1][1] != l[1][2] {
		t.Error("tables that have nothing to do with it are others")
	}
	two, _ := one.Down(1, nil)
	if keys(t, two[1]) != "tx" && keys(t, two[1]) != "bf" {
		t.Errorf("behind the second merge: %q, %q", keys(t, two[1]), keys(t, two[2]))
	}
	three, _ := two.Down(1, nil)
	if len(three[1]) != 0 || keys(t, three[2]) != "abcdefgistuvxy" || !three[2].apart() {
		t.Errorf("behind the third merge: %q, %q", keys(t, three[1]), keys(t, three[2]))
	}
}

// TestDownKeeps: what was there at some moments stays, also beneath a deletion, and no more than that.
func TestDownKeeps(t *testing.T) {
	deleted := of(9, true, "a", "b")
	for _, c := range []struct {
		moments []uint64
		want    string
		deep    string
	}{
		{nil, "c", "-a-bc"},
		{[]uint64{0}, "c", "-a-bc"},
		{[]uint64{1}, "-aac", "-aa-bc"},
		{[]uint64{4}, "-aa-bbc", "-aa-bbc"},
		{[]uint64{1, 4}, "-aaa-bbc", "-aaa-bbc"},
		{[]uint64{6}, "-aa-bbcc", "-aa-bbcc"},
		{[]uint64{1, 4, 6, 9}, "-aaa-bbcc", "-aaa-bbcc"},
	} {
		for deep, want := range map[*Table]string{nil: c.want, of(1, false, "z"): c.deep} {
			l := Levels{
				0: {of(4, false, "a", "b"), of(6, false, "c"), deleted, of(10, false, "c")},
				1: {of(1, false, "a")},
			}
			if deep != nil {
				l[2] = Level{deep}
			}
			n, err := l.Down(0, c.moments)
			if err != nil || keys(t, n[1]) != want || !n[1].apart() {
				t.Errorf("at %v: %q, %v, want %q", c.moments, keys(t, n[1]), err, want)
			}
		}
	}
}

// TestDownVersions: a merge of many entries of many keys leaves no key in two tables, and takes the entry away that no moment asks for.
func TestDownVersions(t *testing.T) {
	for i := range api.MaxLevels - 1 {
		var l Levels
		all := versions(150, 4, 1, 5, 2)
		l[i+1] = newTables(all)
		for _, key := range []string{all[0].Key, all[200].Key, all[len(all)-1].Key} {
			l[i] = append(l[i], New(rows.List{{Key: key, Batch: 2000}}))
		}
		n, err := l.Down(i, []uint64{960, 970, 980, 990})
		if err != nil || !n[i+1].apart() || n[i+1].Count() != len(all) {
			t.Fatalf("level %d: %d entries, want %d, %v", i+1, n[i+1].Count(), len(all), err)
		}
		for _, x := range n[i+1] {
			if x.Count() > api.MaxCount {
				t.Errorf("level %d: a table of %d entries", i+1, x.Count())
			}
		}
	}
}

// TestDownToNothing: when all is deleted, no table is left.
func TestDownToNothing(t *testing.T) {
	l := Levels{2: {of(5, true, "a", "b")}, 3: {of(4, false, "a", "b")}}
	if n, err := l.Down(2, nil); err != nil || !n.Empty(0) {
		t.Errorf("tables are left: %v, %v", n, err)
	}
}

// TestDownMany: a merge makes as many tables as it needs.
func TestDownMany(t *testing.T) {
	l := Levels{0: {New(some(0, 60)), New(some(30, 90))}, 1: {New(some(100, 100)), New(some(300, 100))}}
	n, err := l.Down(0, nil)
	if err != nil || len(n[1]) != 3 || !n[1].apart() || keys(t, n[1]) == "" {
		t.Errorf("%d tables, %v", len(n[1]), err)
	}
}

func TestDownFails(t *testing.T) {
	d := api.NewDisk(1 << 20)
	l := Levels{0: {made(t, d, 2, some(0, 30))}}
	d.Fail(1, 1)
	if n, err := l.Down(0, nil); !errors.Is(err, api.ErrDisk) || !n.Empty(0) {
		t.Errorf("%v, %v", n, err)
	}
}

// TestLeast: all is in the deepest level, in tables that are apart, and no more of it than is needed.
func TestLeast(t *testing.T) {
	all := rows.List{{Key: "a", Batch: 2}, {Key: "b", Deleted: true, Batch: 5}, {Key: "b", Batch: 3}, {Key: "c", Deleted: true, Batch: 1}, {Key: "d", Batch: 9}, {Key: "d", Deleted: true, Batch: 4}}
	for _, c := range []struct {
		moments []uint64
		want    string
	}{{nil, "ad"}, {[]uint64{2}, "ad"}, {[]uint64{3}, "a-bbd"}, {[]uint64{4}, "a-bbd"}, {[]uint64{5, 9}, "ad"}} {
		l := Least(all, c.moments)
		if got := keys(t, l[Deepest]); got != c.want || len(l.Tables()) != 1 || len(l[Deepest]) != 1 {
			t.Errorf("at %v: %q, want %q", c.moments, got, c.want)
		}
	}
	if l := Least(nil, nil); !l.Empty(0) {
		t.Errorf("of nothing: %v", l)
	}
	if l := Least(all[1:2], nil); !l.Empty(0) {
		t.Errorf("of a deletion: %v", l)
	}
	for n := 1; n < 500; n++ {
		l := Least(versions(n, 1, 5, 2), []uint64{960, 970, 980, 990})
		if len(l.Tables()) != len(l[Deepest]) || !l[Deepest].apart() || l[Deepest].Count() != len(versions(n, 1, 5, 2)) {
			t.Fatalf("%d keys: %d tables, %d entries", n, len(l[Deepest]), l[Deepest].Count())
		}
	}
}
