package levels

import (
	"strings"

	"levels/api"
	"levels/rows"
)

// rows is all that there is, the newest first.
func (s *Store) rows() []rows.Row {
	return append([]rows.Row{s.memory}, s.levels.Rows()...)
}

// find is Get within the lock, as it was when so many batches were done. Whatever a row has of a key is newer than what the rows behind it have, so the search ends at the first entry that is not too new.
func (s *Store) find(key string, batches uint64) (string, bool, error) {
	if !rows.IsKey(key) {
		return "", false, api.ErrKey
	}
	for _, r := range s.rows() {
		e, ok, err := r.Find(key, batches)
		if err != nil {
			return "", false, err
		}
		if ok {
			return strings.Clone(e.Value), !e.Deleted, nil
		}
	}
	return "", false, nil
}

// scan is Scan within the lock, as it was when so many batches were done.
func (s *Store) scan(lo, hi string, limit int, batches uint64) ([]api.Pair, error) {
	l, err := s.pairs(lo, hi, limit, batches)
	if err != nil {
		return nil, err
	}
	return l, nil
}

// pairs is what scan answers; with an error, the pairs ahead of it.
func (s *Store) pairs(lo, hi string, limit int, batches uint64) ([]api.Pair, error) {
	var l []api.Pair
	for e, err := range rows.Each(rows.Present(rows.At(s.rows(), lo, batches))) {
		if err != nil {
			return l, err
		}
		if hi != "" && e.Key >= hi {
			break
		}
		l = append(l, api.Pair{Key: strings.Clone(e.Key), Value: strings.Clone(e.Value)})
		if len(l) == limit {
			break
		}
	}
	return l, nil
}

// taken is the pairs that All goes through: if there is an error, those ahead of it.
func (s *Store) taken(lo, hi string) []api.Pair {
	s.lock.Lock()
	defer s.lock.Unlock()
	if s.refusal() != nil {
		return nil
	}
	l, _ := s.pairs(lo, hi, 0, s.batches)
	return l
}
