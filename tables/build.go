// Package tables has tables, sorted files of entries: blocks that are read one by one, and behind them an index that tells where each begins. An open table has its index in memory.
package tables

import (
	"levels/api"
	"levels/code"
	"levels/files"
	"levels/rows"
)

// block is a piece of a table that one read takes: where it is, how many entries it has, and from which key to which.
type block struct {
	at, size, count int
	first, last     string
}

// Mark is what must be kept of a table to open it: its number, and where its index is. The index's sum stands here, and not in the file, so that no other file passes for the table.
type Mark struct {
	Number   uint64
	At, Size uint32
	Sum      uint32
}

// Split deals entries out to as few tables as hold them, about as many to each.
func Split(l rows.List) []rows.List {
	n := (len(l) + api.MaxCount - 1) / api.MaxCount
	parts := make([]rows.List, 0, n)
	for i := range n {
		parts = append(parts, l[i*len(l)/n:(i+1)*len(l)/n])
	}
	return parts
}

// New makes a table of these entries, at least one of them. Its bytes are in memory till it is written.
func New(l rows.List) *Table {
	data, blocks := putBlocks(l)
	return &Table{data: data, blocks: blocks}
}

// Write writes a table that New made, and makes its bytes safe.
func (t *Table) Write(d *api.Disk, number uint64) error {
	index := putIndex(t.blocks)
	m := Mark{Number: number, At: uint32(len(t.data)), Size: uint32(len(index)), Sum: code.Sum(index)}
	if err := files.Write(d, files.Table(number), append(t.data, index...)); err != nil {
		return err
	}
	t.disk, t.mark, t.data = d, m, nil
	return nil
}

// putEntry writes an entry with its batch.
func putEntry(e rows.Entry) []byte {
	return rows.Put(code.PutLong(nil, e.Batch), e)
}

// putBlocks writes entries as blocks of at most MaxBlock bytes, one behind the other.
func putBlocks(l rows.List) ([]byte, []block) {
	var data, piece []byte
	var blocks []block
	from := 0
	end := func(to int) {
		piece = code.Seal(piece)
		blocks = append(blocks, block{len(data), len(piece), to - from, l[from].Key, l[to-1].Key})
		data = append(data, piece...)
		piece, from = nil, to
	}
	for i, e := range l {
		b := putEntry(e)
		if code.Sealed(len(piece)+len(b)) > api.MaxBlock {
			end(i)
		}
		piece = append(piece, b...)
	}
	end(len(l))
	return data, blocks
}

// takeBlock reads the entries of a block; false, if these are not its bytes.
func takeBlock(b []byte, k block) (rows.List, bool) {
	piece, ok := code.Unseal(b)
	if !ok || len(b) != k.size {
		return nil, false
	}
	r := code.NewReader(piece)
	l := make(rows.List, 0, k.count)
	for range k.count {
		batch := r.Long()
		e, ok := rows.Take(r)
		if !ok {
			return nil, false
		}
		e.Batch = batch
		l = append(l, e)
	}
	fits := r.Done() && l.Sorted() && l[0].Key == k.first && l[len(l)-1].Key == k.last
	return l, fits
}

// putIndex writes what the blocks are; where they begin follows from their sizes.
func putIndex(blocks []block) []byte {
	b := code.PutWord(nil, uint32(len(blocks)))
	for _, k := range blocks {
		b = code.PutWord(b, uint32(k.size))
		b = code.PutWord(b, uint32(k.count))
		b = code.PutText(b, k.first)
		b = code.PutText(b, k.last)
	}
	return b
}

// takeIndex reads an index; false, if these bytes are not the index of that table, or no table could have it.
func takeIndex(b []byte, m Mark) ([]block, bool) {
	if code.Sum(b) != m.Sum || len(b) != int(m.Size) {
		return nil, false
	}
	r := code.NewReader(b)
	n := r.Word()
	if n < 1 || n > api.MaxCount {
		return nil, false
	}
	blocks := make([]block, 0, n)
	at, count, last := 0, 0, ""
	for range n {
		k := block{at: at, size: int(r.Word()), count: int(r.Word()), first: r.Text(), last: r.Text()}
		if !k.good() || k.first <= last {
			return nil, false
		}
		blocks = append(blocks, k)
		at, count, last = at+k.size, count+k.count, k.last
	}
	return blocks, r.Done() && at == int(m.At) && count <= api.MaxCount
}

// good tells whether a block is one that can be.
func (k block) good() bool {
	return k.size >= 0 && k.size <= api.MaxBlock &&
		k.count >= 1 && k.count <= api.MaxCount &&
		rows.IsKey(k.first) && rows.IsKey(k.last) && k.first <= k.last
}
