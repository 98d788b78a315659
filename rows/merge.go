package rows

// head is a row with the entry at its front, if it was asked for already.
type head struct {
	next        Next
	front       Entry
	full, ended bool
}

// fill asks for the entry at the front: as late as can be, for a row may read the disk for it.
func (h *head) fill() error {
	if h.full || h.ended {
		return nil
	}
	e, ok, err := h.next()
	if err != nil {
		return err
	}
	h.front, h.full, h.ended = e, ok, !ok
	return nil
}

// ahead tells whether an entry comes ahead of another one: by their keys, and of one key the newer first.
func ahead(a, b Entry) bool {
	return a.Key < b.Key || a.Key == b.Key && a.Batch > b.Batch
}

// Merge hands out the entries of several rows, of one key the newest first.
func Merge(l []Next) Next {
	heads := make([]head, len(l))
	for i, next := range l {
		heads[i].next = next
	}
	return func() (Entry, bool, error) {
		best := -1
		for i := range heads {
			if err := heads[i].fill(); err != nil {
				return Entry{}, false, err
			}
			if heads[i].full && (best < 0 || ahead(heads[i].front, heads[best].front)) {
				best = i
			}
		}
		if best < 0 {
			return Entry{}, false, nil
		}
		heads[best].full = false
		return heads[best].front, true, nil
	}
}

// only hands out the entries that keep wants.
func only(next Next, keep func(Entry) bool) Next {
	return func() (Entry, bool, error) {
		for {
			e, ok, err := next()
			if err != nil || !ok || keep(e) {
				return e, ok, err
			}
		}
	}
}

// From hands out the entries of several rows whose keys are not below lo, as Merge does.
func From(l []Row, lo string) Next {
	nexts := make([]Next, 0, len(l))
	for _, r := range l {
		nexts = append(nexts, r.From(lo))
	}
	return Merge(nexts)
}

// At is From as it was when so many batches were done: one entry for each key, the newest of that time.
func At(l []Row, lo string, batches uint64) Next {
	last := "" // no key is empty
	return only(From(l, lo), func(e Entry) bool {
		if e.Batch > batches || e.Key == last {
			return false
		}
		last = e.Key
		return true
	})
}

// Present leaves out what is deleted.
func Present(next Next) Next {
	return only(next, func(e Entry) bool { return !e.Deleted })
}

// Chain hands out what n rows have, one behind the other. A row is opened when its turn comes; if that fails, it is tried again.
func Chain(n int, open func(i int) (Next, error)) Next {
	at := 0
	var row Next
	return func() (Entry, bool, error) {
		for {
			if row == nil {
				if at == n {
					return Entry{}, false, nil
				}
				opened, err := open(at)
				if err != nil {
					return Entry{}, false, err
				}
				row = opened
				at++
			}
			e, ok, err := row()
			if ok || err != nil {
				return e, ok, err
			}
			row = nil
		}
	}
}
