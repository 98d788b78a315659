// Package logs has the batches that are in no table yet: records, one behind the other, each a head and a body.
package logs

import (
	"levels/api"
	"levels/code"
	"levels/rows"
)

// headSize is how many bytes a head has: the body's size, its sum, and the sum of both.
const headSize = 12

// Record writes a batch, of at least one entry, as a record.
func Record(l []rows.Entry) []byte {
	body := code.PutLong(nil, l[0].Batch)
	body = code.PutByte(body, uint8(len(l)))
	for _, e := range l {
		body = rows.Put(body, e)
	}
	head := code.PutWord(nil, uint32(len(body)))
	head = code.Seal(code.PutWord(head, code.Sum(body)))
	return append(head, body...)
}

// Log is what a log has.
type Log struct {
	Batches [][]rows.Entry
	Torn    bool // it ends within a record: nothing may be written behind that
}

// Read reads a log whose first batch has that number; false, if other bytes were written. A crash takes bytes from the end alone: so a record that is not all there is torn, and one that is all there and does not fit its sums is a fault.
func Read(b []byte, first uint64) (Log, bool) {
	var l Log
	changes := 0
	for len(b) > 0 {
		body, left, ok := cut(b)
		if !ok {
			return Log{}, false
		}
		if body == nil {
			l.Torn = true
			break
		}
		batch, ok := takeBatch(body, first+uint64(len(l.Batches)))
		changes += len(batch)
		if !ok || changes >= api.MaxMemory {
			return Log{}, false
		}
		l.Batches = append(l.Batches, batch)
		b = left
	}
	return l, true
}

// cut takes the first record's body off; nil, if it is not all there; false, if it does not fit its sums.
func cut(b []byte) (body, left []byte, ok bool) {
	if len(b) < headSize {
		return nil, nil, true
	}
	head, ok := code.Unseal(b[:headSize])
	if !ok {
		return nil, nil, false
	}
	r := code.NewReader(head)
	size, sum := uint64(r.Word()), r.Word()
	b = b[headSize:]
	if size > uint64(len(b)) {
		return nil, nil, true
	}
	return b[:size], b[size:], code.Sum(b[:size]) == sum
}

// takeBatch reads a batch of that number.
func takeBatch(body []byte, number uint64) ([]rows.Entry, bool) {
	r := code.NewReader(body)
	if r.Long() != number {
		return nil, false
	}
	n := r.Byte()
	if n < 1 || n > api.MaxChanges {
		return nil, false
	}
	l := make([]rows.Entry, 0, n)
	for range n {
		e, ok := rows.Take(r)
		if !ok {
			return nil, false
		}
		e.Batch = number
		l = append(l, e)
	}
	return l, r.Done()
}
