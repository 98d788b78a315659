package files

import (
	"errors"
	"math"
	"testing"

	"levels/api"
)

func TestNames(t *testing.T) {
	for _, n := range []uint64{0, 1, 9, 10, math.MaxUint64} {
		for _, name := range []string{Log(n), Table(n)} {
			if got, ok := Number(name); !ok || got != n || !Own(name) {
				t.Errorf("Number(%q): %d, %v, want %d", name, got, ok, n)
			}
		}
		if Log(n) == Table(n) {
			t.Errorf("log and table %d have one name", n)
		}
	}
	for _, name := range []string{"", "a", "log-", "table-", "log", "log-01", "log-+1", "log--1", "log-1 ", "table-1x", "xlog-1", "table-18446744073709551616", "State", "state.old"} {
		if _, ok := Number(name); ok || Own(name) {
			t.Errorf("%q passes for a file of the store", name)
		}
	}
	for _, name := range []string{State, NewState} {
		if _, ok := Number(name); ok || !Own(name) {
			t.Errorf("%q: a number, or not the store's", name)
		}
	}
}

func TestWrite(t *testing.T) {
	d := api.NewDisk(4)
	if err := Write(d, "a", []byte("1234")); err != nil {
		t.Fatal(err)
	}
	if b, err := Read(d, "a"); string(b) != "1234" || err != nil {
		t.Errorf("read: %q, %v", b, err)
	}
	if err := Write(d, "a", nil); !errors.Is(err, api.ErrExists) {
		t.Errorf("a file that is there: %v", err)
	}
	if err := Write(d, "b", []byte("1")); !errors.Is(err, api.ErrRoom) {
		t.Errorf("a disk that is full: %v", err)
	}
	if b, err := Read(d, "c"); b != nil || !errors.Is(err, api.ErrMissing) {
		t.Errorf("a file that is not there: %q, %v", b, err)
	}
	d.SyncDir()
	d.Crash(0, 0)
	if b, err := Read(d, "a"); string(b) != "1234" || err != nil {
		t.Errorf("behind a crash: %q, %v", b, err)
	}
}

func TestCorrupt(t *testing.T) {
	err := Corrupt("a")
	var f *api.FileError
	if !errors.Is(err, api.ErrCorrupt) || !errors.As(err, &f) || f.Name != "a" {
		t.Errorf("Corrupt: %v", err)
	}
}
