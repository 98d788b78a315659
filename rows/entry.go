// Package rows has entries in the order of their keys, and merges several rows of them into one.
package rows

import (
	"levels/api"
	"levels/code"
)

// Entry is a key with its value, or that it is deleted, and the number of the batch that did so.
type Entry struct {
	Key, Value string
	Deleted    bool
	Batch      uint64
}

const (
	kindSet     = 0
	kindDeleted = 1
)

// IsKey tells whether a text is a key.
func IsKey(s string) bool { return len(s) >= 1 && len(s) <= api.MaxKey }

// IsValue tells whether a text is a value.
func IsValue(s string) bool { return len(s) <= api.MaxValue }

// Put writes an entry behind b, but for its batch: a log has that once for several entries.
func Put(b []byte, e Entry) []byte {
	kind := uint8(kindSet)
	if e.Deleted {
		kind = kindDeleted
	}
	return code.PutText(code.PutText(code.PutByte(b, kind), e.Key), e.Value)
}

// Take reads what Put wrote; false, if there is no such thing.
func Take(r *code.Reader) (Entry, bool) {
	kind := r.Byte()
	e := Entry{Key: r.Text(), Value: r.Text(), Deleted: kind == kindDeleted}
	switch {
	case r.Short() || !IsKey(e.Key) || !IsValue(e.Value) || kind > kindDeleted:
		return Entry{}, false
	case e.Deleted && e.Value != "":
		return Entry{}, false
	}
	return e, true
}
