package levels

import (
	"maps"
	"slices"

	"levels/api"
	"levels/rows"
)

// moment tells how many batches were done when a snapshot was taken, or why it can't be asked for.
func (s *Store) moment(n int) (uint64, error) {
	if err := s.refusal(); err != nil {
		return 0, err
	}
	batches, ok := s.snaps[n]
	if !ok {
		return 0, api.ErrSnap
	}
	return batches, nil
}

// moments is those of all snapshots that are not released.
func (s *Store) moments() []uint64 { return slices.Sorted(maps.Values(s.snaps)) }

// with is memory behind a batch, with what was there at the moments.
func (s *Store) with(batch []rows.Entry) rows.List {
	return s.memory.With(batch).Needed(s.moments())
}
