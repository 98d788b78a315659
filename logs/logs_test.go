package logs

import (
	"fmt"
	"math/rand"
	"slices"
	"testing"

	"levels/code"
	"levels/rows"
)

// some is so many batches, from a number on.
func some(n int, first uint64) [][]rows.Entry {
	var l [][]rows.Entry
	for i := range n {
		batch := first + uint64(i)
		l = append(l, []rows.Entry{
			{Key: fmt.Sprint("k", i), Value: "v", Batch: batch},
			{Key: "a", Deleted: true, Batch: batch},
			{Key: "12345678", Value: "1234567890123456", Batch: batch},
		})
	}
	return l
}

// written is batches as records, and where each ends.
func written(l [][]rows.Entry) (b []byte, ends []int) {
	for _, batch := range l {
		b = append(b, Record(batch)...)
		ends = append(ends, len(b))
	}
	return b, ends
}

func same(a, b [][]rows.Entry) bool {
	return slices.EqualFunc(a, b, func(x, y []rows.Entry) bool { return slices.Equal(x, y) })
}

func TestRead(t *testing.T) {
	for n := range 6 {
		want := some(n, 7)
		b, _ := written(want)
		l, ok := Read(b, 7)
		if !ok || l.Torn || !same(l.Batches, want) {
			t.Errorf("%d batches: %v, %v", n, l, ok)
		}
		if _, ok := Read(b, 8); ok != (n == 0) {
			t.Errorf("%d batches with other numbers: %v", n, ok)
		}
	}
}

func TestTorn(t *testing.T) {
	want := some(4, 1)
	b, ends := written(want)
	for n := range b {
		l, ok := Read(b[:n], 1)
		whole, at := 0, 0
		for _, end := range ends {
			if end <= n {
				whole++
				at = end
			}
		}
		if !ok || l.Torn != (n > at) || !same(l.Batches, want[:whole]) {
			t.Errorf("the first %d bytes: %v, %v", n, l, ok)
		}
	}
}

func TestFlipped(t *testing.T) {
	b, _ := written(some(3, 1))
	for i := range 8 * len(b) {
		c := slices.Clone(b)
		c[i/8] ^= 1 << (i % 8)
		if l, ok := Read(c, 1); ok {
			t.Errorf("bit %d was turned: %v", i, l)
		}
	}
}

// sealed is a record with any body.
func sealed(body string) []byte {
	head := code.PutWord(nil, uint32(len(body)))
	head = code.Seal(code.PutWord(head, code.Sum([]byte(body))))
	return append(head, body...)
}

func TestOther(t *testing.T) {
	one := "\x01\x00\x00\x00\x00\x00\x00\x00"
	for _, body := range []string{"", "\x01", one, one + "\x00", one + "\x01", one + "\x01\x00\x01a\x00x", one + "\x09" + "\x00\x01a\x00\x00\x01a\x00\x00\x01a\x00\x00\x01a\x00\x00\x01a\x00\x00\x01a\x00\x00\x01a\x00\x00\x01a\x00\x00\x01a\x00"} {
		if l, ok := Read(sealed(body), 1); ok {
			t.Errorf("%q is read as %v", body, l)
		}
	}
	if l, ok := Read(sealed(one+"\x01\x00\x01a\x00"), 1); !ok || len(l.Batches) != 1 {
		t.Errorf("a record by hand: %v, %v", l, ok)
	}
	// No log has as many changes as make a table.
	b, _ := written(some(11, 1))
	if _, ok := Read(b, 1); ok {
		t.Error("a log of 33 changes was taken")
	}
	r := rand.New(rand.NewSource(1))
	for range 2000 {
		b := make([]byte, r.Intn(40))
		r.Read(b)
		Read(b, 1)
		Read(sealed(one+string(b)), 1)
	}
}
