package levels

import (
	"strings"

	"levels/api"
	"levels/files"
	"levels/logs"
	"levels/rows"
)

// check tells whether a batch may be done.
func check(l []api.Change) error {
	if len(l) > api.MaxChanges {
		return api.ErrMany
	}
	for _, c := range l {
		if !rows.IsKey(c.Key) {
			return api.ErrKey
		}
		if !c.Delete && !rows.IsValue(c.Value) {
			return api.ErrValue
		}
	}
	return nil
}

// entries is a batch's changes as entries, with copies of its texts.
func entries(l []api.Change, batch uint64) []rows.Entry {
	list := make([]rows.Entry, 0, len(l))
	for _, c := range l {
		e := rows.Entry{Key: strings.Clone(c.Key), Deleted: c.Delete, Batch: batch}
		if !c.Delete {
			e.Value = strings.Clone(c.Value)
		}
		list = append(list, e)
	}
	return list
}

// do does a batch. The one that fills memory goes into the table at once, and not into the log ahead of that: so, if the disk has no room for the table, the log has no more than fits into memory, and the next Open needs no room.
func (s *Store) do(l []api.Change, sync bool) error {
	batch := entries(l, s.batches+1)
	if len(batch) > 0 {
		full := s.changes+len(batch) >= s.options.Memory
		if full || s.torn {
			return s.settle(s.with(batch), s.batches+1)
		}
		if err := s.record(batch); err != nil {
			return err
		}
	}
	if sync {
		return s.makeSafe()
	}
	return nil
}

// record writes a batch to the log, and then does it in memory.
func (s *Store) record(batch []rows.Entry) error {
	name := files.Log(s.log)
	if !s.logged {
		if err := s.disk.Create(name); err != nil {
			return err
		}
		s.logged, s.looseNames = true, true
	}
	if err := s.disk.Append(name, logs.Record(batch)); err != nil {
		return err
	}
	s.looseBytes = true
	s.memory = s.with(batch)
	s.changes += len(batch)
	s.batches++
	return nil
}

// makeSafe makes all that was done safe. (Tables and states are so from the beginning, but for their names.)
func (s *Store) makeSafe() error {
	if s.looseBytes {
		if err := s.disk.Sync(files.Log(s.log)); err != nil {
			return err
		}
		s.looseBytes = false
	}
	if s.looseNames {
		if err := s.disk.SyncDir(); err != nil {
			return err
		}
		s.looseNames = false
	}
	return nil
}
