package levels

import (
	"errors"
	"strings"

	"levels/api"
)

// refusal is why a call is not done: the store is closed, or failed.
func (s *Store) refusal() error {
	if s.closed {
		return api.ErrClosed
	}
	return fresh(s.failed)
}

// ended is the answer of a call that changes something, and ended so: with an error the store has failed.
func (s *Store) ended(err error) error {
	s.failed = err
	return fresh(err)
}

// fresh is the same error in a value of its own: an error at a file can be written into by whoever is answered it, and the store is to answer it again.
func fresh(err error) error {
	var f *api.FileError
	if errors.As(err, &f) {
		return &api.FileError{Name: strings.Clone(f.Name), Err: f.Err}
	}
	return err
}
