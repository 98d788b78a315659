// Package files knows how the store's files are named, and reads and writes whole ones.
package files

import (
	"strconv"
	"strings"

	"levels/api"
)

// The state has one name; a new one is written under another, and takes the name over when it is whole.
const (
	State    = "state"
	NewState = "state.new"
)

const (
	logPrefix   = "log-"
	tablePrefix = "table-"
)

// Log is the name of a log.
func Log(n uint64) string { return logPrefix + strconv.FormatUint(n, 10) }

// Table is the name of a table.
func Table(n uint64) string { return tablePrefix + strconv.FormatUint(n, 10) }

// Number tells the number in the name of a log or a table; false, if it is no such name.
func Number(name string) (uint64, bool) {
	digits, ok := strings.CutPrefix(name, tablePrefix)
	if !ok {
		digits, ok = strings.CutPrefix(name, logPrefix)
	}
	if !ok {
		return 0, false
	}
	n, err := strconv.ParseUint(digits, 10, 64)
	if err != nil || strconv.FormatUint(n, 10) != digits {
		return 0, false
	}
	return n, true
}

// Own tells whether a store may have made a file of that name.
func Own(name string) bool {
	_, ok := Number(name)
	return ok || name == State || name == NewState
}

// Corrupt is the error of a file in which something else stands than was written.
func Corrupt(name string) error {
	return &api.FileError{Name: name, Err: api.ErrCorrupt}
}

// Read reads a whole file.
func Read(d *api.Disk, name string) ([]byte, error) {
	n, err := d.Size(name)
	if err != nil {
		return nil, err
	}
	return d.ReadAt(name, 0, n)
}

// Write makes a file with these bytes, and makes them safe (not the name).
func Write(d *api.Disk, name string, b []byte) error {
	if err := d.Create(name); err != nil {
		return err
	}
	if err := d.Append(name, b); err != nil {
		return err
	}
	return d.Sync(name)
}
