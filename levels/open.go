package levels

import (
	"errors"

	"levels/api"
	"levels/files"
	"levels/logs"
	"levels/state"
	"levels/tables"
)

// load reads the state, and opens the tables that it names.
func (s *Store) load() error {
	st, err := state.Load(s.disk)
	if err != nil {
		return err
	}
	s.levels, err = tables.OpenLevels(s.disk, st.Levels)
	if err != nil {
		return err
	}
	s.next, s.log, s.batches = st.Next, st.Log, st.Batches
	// The store ahead of this one may have ended without making its names safe.
	s.looseNames = len(s.disk.List()) > 0
	return nil
}

// replay does the batches of the log again, in memory.
func (s *Store) replay() error {
	name := files.Log(s.log)
	b, err := files.Read(s.disk, name)
	if errors.Is(err, api.ErrMissing) {
		return nil
	}
	if err != nil {
		return err
	}
	l, ok := logs.Read(b, s.batches+1)
	if !ok {
		return files.Corrupt(name)
	}
	for _, batch := range l.Batches {
		s.memory = s.with(batch)
		s.changes += len(batch)
		s.batches++
	}
	s.logged, s.torn, s.looseBytes = true, l.Torn, true
	return nil
}

// clean takes away what a store left behind that came to no end.
func (s *Store) clean() error { return s.remove(s.leftovers()) }

// leftovers is the files that a store made, and to which nothing leads any more. Files of other names are not the store's.
func (s *Store) leftovers() []string {
	used := map[string]struct{}{files.State: {}, files.Log(s.log): {}}
	for _, t := range s.levels.Tables() {
		used[t.Name()] = struct{}{}
	}
	var l []string
	for _, name := range s.disk.List() {
		if _, ok := used[name]; !ok && files.Own(name) {
			l = append(l, name)
		}
	}
	return l
}

// remove takes files away.
func (s *Store) remove(names []string) error {
	for _, name := range names {
		if err := s.disk.Remove(name); err != nil {
			return err
		}
	}
	return nil
}

// shrink brings memory and tables within this store's options; those of the store ahead of it may have been wider.
func (s *Store) shrink() error {
	full := s.changes >= s.options.Memory
	for i, l := range s.levels {
		full = full || s.full(i, l)
	}
	if !full {
		return nil
	}
	return s.settle(s.memory, s.batches)
}
