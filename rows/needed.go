package rows

import (
	"iter"
	"slices"
)

// Keys goes through the list key by key: each time it is all entries of one.
func (l List) Keys() iter.Seq[List] {
	return func(yield func(List) bool) {
		from := 0
		for i := range l {
			if i+1 < len(l) && l[i+1].Key == l[i].Key {
				continue
			}
			if !yield(l[from : i+1]) {
				return
			}
			from = i + 1
		}
	}
}

// Needed is a new list without what nobody can ask for any more. Of each key the newest entry stays, and for each of these moments, told by how many batches were done then, the newest of that time: one entry more for each moment at most.
func (l List) Needed(moments []uint64) List {
	var n List
	for versions := range l.Keys() {
		for i, e := range versions {
			seen := func(moment uint64) bool { return e.Batch <= moment && moment < versions[i-1].Batch }
			if i == 0 || slices.ContainsFunc(moments, seen) {
				n = append(n, e)
			}
		}
	}
	return n
}

// Bare is a new list without what tells that a key is deleted, where that hides nothing: no older entry of the key is there.
func (l List) Bare() List {
	var n List
	for versions := range l.Keys() {
		for len(versions) > 0 && versions[len(versions)-1].Deleted {
			versions = versions[:len(versions)-1]
		}
		n = append(n, versions...)
	}
	return n
}
