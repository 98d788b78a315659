// Package state has what leads to all else on the disk: which tables there are, and which log.
package state

import (
	"errors"

	"levels/api"
	"levels/code"
	"levels/files"
	"levels/tables"
)

// State tells what is on the disk.
type State struct {
	Next    uint64 // the number that no file has had yet
	Log     uint64 // the log's number; there may be no such file yet
	Batches uint64 // so many batches are in the tables: those of the log come behind them
	Levels  [api.MaxLevels][]tables.Mark
}

// first is the state of a disk on which no state was written yet. There may be a log, and a table that was to come with the first state: if there is more, a state was there.
func first(d *api.Disk) (State, error) {
	s := State{Log: 1, Next: 2}
	for _, name := range d.List() {
		if n, ok := files.Number(name); ok && n > s.Next {
			return State{}, &api.FileError{Name: files.State, Err: api.ErrMissing}
		}
	}
	return s, nil
}

// Load reads the state.
func Load(d *api.Disk) (State, error) {
	b, err := files.Read(d, files.State)
	if errors.Is(err, api.ErrMissing) {
		return first(d)
	}
	if err != nil {
		return State{}, err
	}
	s, ok := decode(b)
	if !ok {
		return State{}, files.Corrupt(files.State)
	}
	return s, nil
}

// Save puts a state in the place of the one that is there: a crash leaves one or the other. What it names must be safe; the disk keeps names in the order in which they were made, so one SyncDir is enough for all.
func Save(d *api.Disk, s State) error {
	if err := files.Write(d, files.NewState, encode(s)); err != nil {
		return err
	}
	if err := d.Rename(files.NewState, files.State); err != nil {
		return err
	}
	return d.SyncDir()
}

func encode(s State) []byte {
	b := code.PutLong(nil, s.Next)
	b = code.PutLong(b, s.Log)
	b = code.PutLong(b, s.Batches)
	for _, l := range s.Levels {
		b = code.PutWord(b, uint32(len(l)))
		for _, m := range l {
			b = code.PutLong(b, m.Number)
			b = code.PutWord(b, m.At)
			b = code.PutWord(b, m.Size)
			b = code.PutWord(b, m.Sum)
		}
	}
	return code.Seal(b)
}

// decode reads what encode wrote; false, if it is something else.
func decode(b []byte) (State, bool) {
	b, ok := code.Unseal(b)
	if !ok {
		return State{}, false
	}
	r := code.NewReader(b)
	s := State{Next: r.Long(), Log: r.Long(), Batches: r.Long()}
	seen := map[uint64]struct{}{s.Log: {}}
	for i := range s.Levels {
		for n := r.Word(); n > 0; n-- {
			m := tables.Mark{Number: r.Long(), At: r.Word(), Size: r.Word(), Sum: r.Word()}
			if _, twice := seen[m.Number]; r.Short() || twice || m.Number >= s.Next {
				return State{}, false
			}
			seen[m.Number] = struct{}{}
			s.Levels[i] = append(s.Levels[i], m)
		}
	}
	return s, r.Done() && s.Log < s.Next
}
