package levels_test

import (
	"math/rand"
	"slices"
	"testing"

	"levels/api"
	"levels/levels"
)

// past is what was done to a disk: the contents behind each batch, how many of them are safe, and whether the last one's Write answered an error; and whether snapshots are held meanwhile.
type past struct {
	all   []contents
	safe  int
	maybe bool
	snaps bool
	what  string // came then: for a test's words
}

// newPast is that of a disk without files.
func newPast(snaps bool) *past { return &past{all: []contents{{}}, snaps: snaps} }

// copy is the same past, for one disk more.
func (p *past) copy() *past {
	c := *p
	c.all = slices.Clone(p.all)
	return &c
}

// done is how many batches' Writes answered nil.
func (p *past) done() int {
	if p.maybe {
		return len(p.all) - 2
	}
	return len(p.all) - 1
}

// safely is the answer of a call that makes safe all that was done, if it is nil.
func (p *past) safely(err error) error {
	if err == nil {
		p.safe = p.done()
	}
	return err
}

// do writes one batch.
func (p *past) do(s *levels.Store, l []api.Change, sync bool) error {
	err := s.Write(l, sync)
	p.all = append(p.all, p.all[len(p.all)-1].with(l))
	p.maybe = err != nil
	if sync {
		return p.safely(err)
	}
	return err
}

// write writes batches, and compacts from time to time, till the disk refuses something, and answers that error.
func (p *past) write(r *rand.Rand, s *levels.Store, n int) error {
	for i := range n {
		if r.Intn(12) == 0 {
			if err := p.safely(s.Compact()); err != nil {
				return err
			}
		}
		if p.snaps && i%3 == 0 {
			s.Snapshot()
			s.Release(1 + r.Intn(20))
		}
		if err := p.do(s, anyBatch(r, 60), r.Intn(4) == 0); err != nil {
			return err
		}
	}
	return nil
}

// check tests that a store has the contents of some first batches, at least of so many, and goes on from there.
func (p *past) check(t *testing.T, s *levels.Store, least int) {
	t.Helper()
	l, err := s.Scan("", "", 0)
	n := prefix(p.all, l)
	if err != nil || n < least {
		t.Fatalf("%s: the store has the first %d batches (%v) of %d, of which %d are safe: %v, %v", p.what, n, err, len(p.all)-1, p.safe, l, p.all[least])
	}
	p.all, p.safe, p.maybe = p.all[:n+1], min(p.safe, n), false
}
