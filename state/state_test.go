package state

import (
	"errors"
	"math"
	"math/rand"
	"reflect"
	"slices"
	"testing"

	"levels/api"
	"levels/code"
	"levels/files"
	"levels/tables"
)

func some() State {
	s := State{Next: 40, Log: 39, Batches: math.MaxUint64}
	s.Levels[0] = []tables.Mark{{Number: 7, At: 1, Size: 2, Sum: 3}, {Number: 5, At: math.MaxUint32}}
	s.Levels[3] = []tables.Mark{{Number: 38}}
	return s
}

func TestSave(t *testing.T) {
	d := api.NewDisk(1 << 20)
	for _, want := range []State{{Next: 2, Log: 1}, some(), {Next: 9, Log: 8, Batches: 7}} {
		if err := Save(d, want); err != nil {
			t.Fatal(err)
		}
		d.Crash(0, 0)
		if got, err := Load(d); err != nil || !reflect.DeepEqual(got, want) {
			t.Errorf("loaded: %v, %v, want %v", got, err, want)
		}
		if l := d.List(); !slices.Equal(l, []string{files.State}) {
			t.Errorf("files: %q", l)
		}
	}
}

// TestHalf: a crash within Save leaves the old state or the new one.
func TestHalf(t *testing.T) {
	for after := range 6 {
		for dir := range uint(4) {
			for tail := range uint(3) {
				d := api.NewDisk(1 << 20)
				if err := Save(d, State{Next: 2, Log: 1}); err != nil {
					t.Fatal(err)
				}
				d.Fail(after, 99)
				err := Save(d, some())
				if (err == nil) != (after == 5) {
					t.Errorf("Save, failing behind %d operations: %v", after, err)
				}
				d.Crash(dir, tail)
				got, loadErr := Load(d)
				if loadErr != nil || got.Next != 2 && !reflect.DeepEqual(got, some()) || err == nil && got.Next == 2 {
					t.Errorf("%d, %d, %d: loaded %v, %v", after, dir, tail, got, loadErr)
				}
			}
		}
	}
}

func TestFirst(t *testing.T) {
	d := api.NewDisk(1 << 20)
	for _, name := range []string{"", "log-1", "table-2", "log-x", files.NewState} {
		d.Create(name)
		if s, err := Load(d); err != nil || s.Log != 1 || s.Next != 2 || s.Batches != 0 {
			t.Errorf("without a state, with %q: %v, %v", name, s, err)
		}
	}
	for _, name := range []string{"log-3", "table-3", "table-18446744073709551615"} {
		c := d.Copy()
		c.Create(name)
		s, err := Load(c)
		var f *api.FileError
		if !errors.Is(err, api.ErrMissing) || !errors.As(err, &f) || f.Name != files.State || s.Next != 0 {
			t.Errorf("without a state, with %q: %v, %v", name, s, err)
		}
	}
	d.Fail(0, 1)
	if _, err := Load(d); !errors.Is(err, api.ErrDisk) {
		t.Errorf("a disk that fails: %v", err)
	}
}

// loads tells whether these bytes are loaded as a state.
func loads(t *testing.T, b []byte) bool {
	d := api.NewDisk(1 << 20)
	if err := files.Write(d, files.State, b); err != nil {
		t.Fatal(err)
	}
	_, err := Load(d)
	if err != nil && !errors.Is(err, api.ErrCorrupt) {
		t.Errorf("other bytes: %v", err)
	}
	return err == nil
}

func TestOther(t *testing.T) {
	b := encode(some())
	if !loads(t, b) {
		t.Fatal("the state itself is not loaded")
	}
	for i := range 8 * len(b) {
		c := slices.Clone(b)
		if c[i/8] ^= 1 << (i % 8); loads(t, c) {
			t.Errorf("bit %d was turned, and nothing noticed", i)
		}
	}
	inner := b[:len(b)-4]
	for n := range inner {
		if loads(t, b[:n]) || loads(t, code.Seal(slices.Clone(inner[:n]))) {
			t.Errorf("the first %d bytes are loaded", n)
		}
	}
	if loads(t, code.Seal(append(slices.Clone(inner), 0))) {
		t.Error("there is a byte too many, and it is loaded")
	}
	twice, late, log := some(), some(), some()
	twice.Levels[1] = []tables.Mark{{Number: 7}}
	late.Levels[1] = []tables.Mark{{Number: 40}}
	log.Log = 40
	for i, s := range []State{twice, late, log} {
		if loads(t, encode(s)) {
			t.Errorf("state %d can't be, and is loaded", i)
		}
	}
	r := rand.New(rand.NewSource(1))
	for range 2000 {
		b := make([]byte, r.Intn(90))
		r.Read(b)
		loads(t, code.Seal(b))
	}
}
