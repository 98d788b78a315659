package rows

import (
	"iter"
	"slices"
	"strings"
)

// Next hands out the next entry of a row; false behind the last one.
type Next func() (Entry, bool, error)

// Row is entries by their keys, wherever they are.
type Row interface {
	// Find gives the entry of a key, if there is one.
	Find(key string) (Entry, bool, error)
	// From hands out the entries whose keys are not below lo.
	From(lo string) Next
}

// List is a row in memory: one entry for each key.
type List []Entry

// place tells where a key stands in the list, or would stand.
func (l List) place(key string) (int, bool) {
	return slices.BinarySearchFunc(l, key, func(e Entry, key string) int {
		return strings.Compare(e.Key, key)
	})
}

// Sorted tells whether each key is above the one ahead of it.
func (l List) Sorted() bool {
	for i := range l {
		if i > 0 && l[i-1].Key >= l[i].Key {
			return false
		}
	}
	return true
}

// With is a new list in which these entries are done, one behind the other.
func (l List) With(more []Entry) List {
	n := slices.Clone(l)
	for _, e := range more {
		if i, ok := n.place(e.Key); ok {
			n[i] = e
		} else {
			n = slices.Insert(n, i, e)
		}
	}
	return n
}

// Find is Row's.
func (l List) Find(key string) (Entry, bool, error) {
	i, ok := l.place(key)
	if !ok {
		return Entry{}, false, nil
	}
	return l[i], true, nil
}

// From is Row's.
func (l List) From(lo string) Next {
	i, _ := l.place(lo)
	return func() (Entry, bool, error) {
		if i == len(l) {
			return Entry{}, false, nil
		}
		i++
		return l[i-1], true, nil
	}
}

// Each goes through what is left; an error is the last thing it gives.
func Each(next Next) iter.Seq2[Entry, error] {
	return func(yield func(Entry, error) bool) {
		for {
			e, ok, err := next()
			if err != nil {
				yield(Entry{}, err)
				return
			}
			if !ok || !yield(e, nil) {
				return
			}
		}
	}
}

// Collect gives what is left.
func Collect(next Next) (List, error) {
	var l List
	for e, err := range Each(next) {
		if err != nil {
			return nil, err
		}
		l = append(l, e)
	}
	return l, nil
}
