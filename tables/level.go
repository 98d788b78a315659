package tables

import (
	"slices"
	"sort"

	"levels/api"
	"levels/files"
	"levels/rows"
)

// Level is the tables of a level: in level 0 by their age, the oldest first; from level 1 on by their keys, of which no two have the same. Those below level 0 are one row.
type Level []*Table

// Levels is all of them.
type Levels [api.MaxLevels]Level

// Deepest is the level from which no table goes on: it may have any number of them.
const Deepest = api.MaxLevels - 1

// apart tells whether each table's keys are above those of the one ahead of it.
func (l Level) apart() bool {
	for i := range l {
		if i > 0 && l[i-1].Last() >= l[i].First() {
			return false
		}
	}
	return true
}

// Count is how many entries the tables have.
func (l Level) Count() int {
	n := 0
	for _, t := range l {
		n += t.Count()
	}
	return n
}

// Marks is what to keep of the tables.
func (l Level) Marks() []Mark {
	m := make([]Mark, 0, len(l))
	for _, t := range l {
		m = append(m, t.Mark())
	}
	return m
}

// place tells the first table that ends not below a key.
func (l Level) place(key string) int {
	return sort.Search(len(l), func(i int) bool { return l[i].Last() >= key })
}

// Find is Row's: it asks one table at most.
func (l Level) Find(key string, batch uint64) (rows.Entry, bool, error) {
	i := l.place(key)
	if i == len(l) {
		return rows.Entry{}, false, nil
	}
	return l[i].Find(key, batch)
}

// From is Row's.
func (l Level) From(lo string) rows.Next {
	begin := l.place(lo)
	return rows.Chain(len(l)-begin, func(i int) (rows.Next, error) {
		return l[begin+i].From(lo), nil
	})
}

// Cut parts the tables: those below first, those that may have keys from first to last, those above last.
func (l Level) Cut(first, last string) (before, within, behind Level) {
	i := l.place(first)
	j := i
	for j < len(l) && l[j].First() <= last {
		j++
	}
	return l[:i], l[i:j], l[j:]
}

// Rows is the rows of all levels, the newest first.
func (l *Levels) Rows() []rows.Row {
	var list []rows.Row
	for i, level := range l {
		if i > 0 {
			list = append(list, level)
			continue
		}
		for _, t := range slices.Backward(level) {
			list = append(list, t)
		}
	}
	return list
}

// Empty tells whether there is no table from level n on.
func (l *Levels) Empty(n int) bool {
	for _, level := range l[n:] {
		if len(level) > 0 {
			return false
		}
	}
	return true
}

// Tables is the tables of all levels.
func (l *Levels) Tables() Level { return slices.Concat(l[:]...) }

// Shape tells what the tables are, level by level.
func (l *Levels) Shape() [][]api.Table {
	shape := make([][]api.Table, 0, len(l))
	for _, level := range l {
		list := make([]api.Table, 0, len(level))
		for _, t := range level {
			list = append(list, t.Shape())
		}
		shape = append(shape, list)
	}
	return shape
}

// AsFilled tells whether each level has as many tables, and as many entries in them, as another one's.
func (l *Levels) AsFilled(o *Levels) bool {
	for i := range l {
		if len(l[i]) != len(o[i]) || l[i].Count() != o[i].Count() {
			return false
		}
	}
	return true
}

// OpenLevels opens the tables of all levels.
func OpenLevels(d *api.Disk, marks [api.MaxLevels][]Mark) (Levels, error) {
	var l Levels
	for i := range marks {
		for _, m := range marks[i] {
			t, err := Open(d, m)
			if err != nil {
				return Levels{}, err
			}
			l[i] = append(l[i], t)
		}
		if i > 0 && !l[i].apart() {
			return Levels{}, files.Corrupt(files.State)
		}
	}
	return l, nil
}
