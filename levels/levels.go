// Package levels: a store of keys and values on a disk: see DOC.md.
package levels

import (
	"sync"

	"levels/api"
	"levels/rows"
	"levels/tables"
)

// Store has keys and values.
type Store struct {
	lock    sync.Mutex // held in every call: the disk, too, is for one at a time
	disk    *api.Disk
	options api.Options
	closed  bool
	failed  error // what the disk answered to a call that changes something: from then on it is every call's answer

	memory  rows.List // what is in no table yet
	changes int       // how many changes made it: one key's count each
	batches uint64    // how many batches were done, in all stores on the disk
	levels  tables.Levels
	next    uint64 // the number that no file has had yet

	given int            // how many snapshots there were
	snaps map[int]uint64 // of each that is not released: how many batches were done then

	log        uint64 // the log's number
	logged     bool   // there is such a file
	torn       bool   // it ends within a record
	looseBytes bool   // some of its bytes may not be safe
	looseNames bool   // some name may not be safe
}

// Open opens a store (P3).
func Open(d *api.Disk, o api.Options) (*Store, error) {
	if o.Memory < 1 || o.Memory > api.MaxMemory || o.Tables < 2 || o.Tables > api.MaxTables {
		return nil, api.ErrOptions
	}
	s := &Store{disk: d, options: o, snaps: map[int]uint64{}}
	// What is there is read whole ahead of the first change, so that nothing is taken away from a disk that is not what it was.
	for _, step := range []func() error{s.load, s.replay, s.clean, s.shrink} {
		if err := step(); err != nil {
			return nil, err
		}
	}
	return s, nil
}

// Write does changes, all at once (P4).
func (s *Store) Write(l []api.Change, sync bool) error {
	s.lock.Lock()
	defer s.lock.Unlock()
	if err := s.refusal(); err != nil {
		return err
	}
	if err := check(l); err != nil {
		return err
	}
	return s.ended(s.do(l, sync))
}

// Get tells a key's value (P5).
func (s *Store) Get(key string) (string, bool, error) {
	s.lock.Lock()
	defer s.lock.Unlock()
	if err := s.refusal(); err != nil {
		return "", false, err
	}
	return s.find(key, s.batches)
}

// Scan tells pairs, by their keys (P5).
func (s *Store) Scan(lo, hi string, limit int) ([]api.Pair, error) {
	s.lock.Lock()
	defer s.lock.Unlock()
	if err := s.refusal(); err != nil {
		return nil, err
	}
	return s.scan(lo, hi, limit, s.batches)
}

// All goes through pairs (P5).
func (s *Store) All(lo, hi string) func(yield func(key, value string) bool) {
	// The pairs are taken now: the tables that have them may be gone when they are gone through.
	l := s.taken(lo, hi)
	return func(yield func(key, value string) bool) {
		for _, p := range l {
			if s.isClosed() || !yield(p.Key, p.Value) {
				return
			}
		}
	}
}

// Snapshot keeps what there is (P6).
func (s *Store) Snapshot() (int, error) {
	s.lock.Lock()
	defer s.lock.Unlock()
	if err := s.refusal(); err != nil {
		return 0, err
	}
	if len(s.snaps) >= api.MaxSnaps {
		return 0, api.ErrMany
	}
	s.given++
	s.snaps[s.given] = s.batches
	return s.given, nil
}

// GetAt is Get in a snapshot (P6).
func (s *Store) GetAt(n int, key string) (string, bool, error) {
	s.lock.Lock()
	defer s.lock.Unlock()
	batches, err := s.moment(n)
	if err != nil {
		return "", false, err
	}
	return s.find(key, batches)
}

// ScanAt is Scan in a snapshot (P6).
func (s *Store) ScanAt(n int, lo, hi string, limit int) ([]api.Pair, error) {
	s.lock.Lock()
	defer s.lock.Unlock()
	batches, err := s.moment(n)
	if err != nil {
		return nil, err
	}
	return s.scan(lo, hi, limit, batches)
}

// Release lets a snapshot go (P6).
func (s *Store) Release(n int) error {
	s.lock.Lock()
	defer s.lock.Unlock()
	if _, err := s.moment(n); err != nil {
		return err
	}
	delete(s.snaps, n)
	// What was kept for it alone goes: from memory now, from the tables when they are merged.
	s.memory = s.memory.Needed(s.moments())
	return nil
}

// Shape tells the tables, level by level (P9).
func (s *Store) Shape() ([][]api.Table, error) {
	s.lock.Lock()
	defer s.lock.Unlock()
	if err := s.refusal(); err != nil {
		return nil, err
	}
	return s.levels.Shape(), nil
}

// Compact brings the tables into their least form (P10).
func (s *Store) Compact() error {
	s.lock.Lock()
	defer s.lock.Unlock()
	if err := s.refusal(); err != nil {
		return err
	}
	return s.ended(s.compact())
}

// Close ends it (P7).
func (s *Store) Close() error {
	s.lock.Lock()
	defer s.lock.Unlock()
	if s.closed {
		return api.ErrClosed
	}
	s.closed = true
	s.memory, s.levels, s.snaps = nil, tables.Levels{}, nil
	if s.failed != nil {
		return s.failed
	}
	return s.makeSafe()
}

// isClosed tells whether the store is closed.
func (s *Store) isClosed() bool {
	s.lock.Lock()
	defer s.lock.Unlock()
	return s.closed
}
