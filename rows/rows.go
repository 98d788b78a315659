package rows

import (
	"iter"
	"math"
	"slices"
	"sort"
)

// Next hands out the next entry of a row; false behind the last one.
type Next func() (Entry, bool, error)

// Row is entries by their keys, of one key the newest first, wherever they are.
type Row interface {
	// Find gives the newest entry of a key that no batch behind that one made, if there is one.
	Find(key string, batch uint64) (Entry, bool, error)
	// From hands out the entries whose keys are not below lo.
	From(lo string) Next
}

// List is a row in memory.
type List []Entry

// place tells where an entry of that key and batch stands in the list, or would stand.
func (l List) place(key string, batch uint64) int {
	e := Entry{Key: key, Batch: batch}
	return sort.Search(len(l), func(i int) bool { return !ahead(l[i], e) })
}

// Sorted tells whether the entries are in their order, and no two have the same place in it.
func (l List) Sorted() bool {
	for i := range l {
		if i > 0 && !ahead(l[i-1], l[i]) {
			return false
		}
	}
	return true
}

// With is a new list in which these entries are done, one behind the other. Of several that one batch made of a key the last holds.
func (l List) With(more []Entry) List {
	n := slices.Clone(l)
	for _, e := range more {
		i := n.place(e.Key, e.Batch)
		if i < len(n) && n[i].Key == e.Key && n[i].Batch == e.Batch {
			n[i] = e
		} else {
			n = slices.Insert(n, i, e)
		}
	}
	return n
}

// Find is Row's.
func (l List) Find(key string, batch uint64) (Entry, bool, error) {
	i := l.place(key, batch)
	if i == len(l) || l[i].Key != key {
		return Entry{}, false, nil
	}
	return l[i], true, nil
}

// From is Row's.
func (l List) From(lo string) Next {
	i := l.place(lo, math.MaxUint64)
	return func() (Entry, bool, error) {
		if i == len(l) {
			return Entry{}, false, nil
		}
		i++
		return l[i-1], true, nil
	}
}

// Each goes through what is left; an error is the last thing it gives.
func Each(next Next) iter.Seq2[Entry, error] {
	return func(yield func(Entry, error) bool) {
		for {
			e, ok, err := next()
			if err != nil {
				yield(Entry{}, err)
				return
			}
			if !ok || !yield(e, nil) {
				return
			}
		}
	}
}

// Collect gives what is left.
func Collect(next Next) (List, error) {
	var l List
	for e, err := range Each(next) {
		if err != nil {
			return nil, err
		}
		l = append(l, e)
	}
	return l, nil
}
