package levels

import (
	"slices"

	"levels/files"
	"levels/rows"
	"levels/state"
	"levels/tables"
)

// full tells whether a level has so many tables that some must go on to the next one.
func (s *Store) full(level int, l tables.Level) bool {
	if level == 0 {
		return len(l) >= s.options.Tables
	}
	return level < tables.Deepest && len(l) > s.options.Tables
}

// settle makes a table of memory, with which so many batches are done, and merges the levels that are full. All that is written holds from the moment when the new state does; till then nothing has changed.
func (s *Store) settle(memory rows.List, batches uint64) error {
	levels := s.levels
	if len(memory) > 0 {
		levels[0] = slices.Concat(levels[0], tables.Level{tables.New(memory)})
	}
	for i := range levels {
		for s.full(i, levels[i]) {
			var err error
			if levels, err = levels.Down(i, s.moments()); err != nil {
				return err
			}
		}
	}
	return s.commit(levels, batches)
}

// compact brings all that there is into its least form. If the tables have it already they stay, so that no room is needed, but what was done becomes safe all the same.
func (s *Store) compact() error {
	all, err := rows.Collect(rows.From(s.rows(), ""))
	if err != nil {
		return err
	}
	least := tables.Least(all, s.moments())
	if s.changes == 0 && s.levels.AsFilled(&least) {
		return s.makeSafe()
	}
	return s.commit(least, s.batches)
}

// commit writes the tables that are new, and the state with these tables and a new log; takes it over; and then takes away what it has no use for.
func (s *Store) commit(levels tables.Levels, batches uint64) error {
	number := s.next
	for _, t := range levels.Tables() {
		if t.Written() {
			continue
		}
		if err := t.Write(s.disk, number); err != nil {
			return err
		}
		number++
	}
	st := state.State{Next: number + 1, Log: number, Batches: batches}
	for i, l := range levels {
		st.Levels[i] = l.Marks()
	}
	if err := state.Save(s.disk, st); err != nil {
		return err
	}
	old := s.outdated(levels)
	s.memory, s.changes, s.batches = nil, 0, batches
	s.levels, s.next = levels, st.Next
	s.log, s.logged, s.torn = st.Log, false, false
	s.looseBytes, s.looseNames = false, false
	return s.remove(old)
}

// outdated is the files that are not used any more when these are the tables: the log, and the tables that were merged.
func (s *Store) outdated(levels tables.Levels) []string {
	var names []string
	if s.logged {
		names = append(names, files.Log(s.log))
	}
	stay := map[string]struct{}{}
	for _, t := range levels.Tables() {
		stay[t.Name()] = struct{}{}
	}
	for _, t := range s.levels.Tables() {
		if _, ok := stay[t.Name()]; !ok {
			names = append(names, t.Name())
		}
	}
	return names
}
