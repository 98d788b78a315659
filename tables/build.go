// Package tables has tables, sorted files of entries: blocks that are read one by one, and behind them an index that tells where each begins. An open table has its index in memory.
package tables

import (
	"levels/api"
	"levels/code"
	"levels/files"
	"levels/rows"
)

// block is a piece of a table that one read takes: where it is, how many entries it has, and from which key to which.
type block struct {
	at, size, count int
	first, last     string
}

// Mark is what must be kept of a table to open it: its number, and where its index is. The index's sum stands here, and not in the file, so that no other file passes for the table.
type Mark struct {
	Number   uint64
	At, Size uint32
	Sum      uint32
}

// fill is how many entries a table is to have at most: a key's other versions, one for each snapshot, may come on top.
const fill = api.MaxCount - api.MaxSnaps

// Split deals entries out to tables, about as many to each. Those of one key stay together: below level 0 no two tables may have it.
func Split(l rows.List) []rows.List {
	n := (len(l) + fill - 1) / fill
	parts := make([]rows.List, 0, n)
	from, to := 0, 0
	for versions := range l.Keys() {
		to += len(versions)
		if to >= (len(parts)+1)*len(l)/n {
			parts = append(parts, l[from:to])
			from = to
		}
	}
	return parts
}

// New makes a table of these entries, at least one of them. Its bytes are in memory till it is written.
func New(l rows.List) *Table {
	data, blocks := putBlocks(l)
	return &Table{data: data, blocks: blocks}
}

// Write writes a table that New made, and makes its bytes safe.
func (t *Table) Write(d *api.Disk, number uint64) error {
	index := putIndex(t.blocks)
	m := Mark{Number: number, At: uint32(len(t.data)), Size: uint32(len(index)), Sum: code.Sum(index)}
	if err := files.Write(d, files.Table(number), append(t.data, index...)); err != nil {
		return err
	}
	t.disk, t.mark, t.data = d, m, nil
	return nil
}

// putEntries writes entries, each with its batch.
func putEntries(l rows.List) []byte {
	var b []byte
	for _, e := range l {
		b = rows.Put(code.PutLong(b, e.Batch), e)
	}
	return b
}

// putBlocks writes entries as blocks of at most MaxBlock bytes, one behind the other. Those of one key stay together, so that one read finds each.
func putBlocks(l rows.List) ([]byte, []block) {
	var data, piece []byte
	var blocks []block
	from, to := 0, 0
	end := func() {
		piece = code.Seal(piece)
		blocks = append(blocks, block{len(data), len(piece), to - from, l[from].Key, l[to-1].Key})
		data = append(data, piece...)
		piece, from = nil, to
	}
	for versions := range l.Keys() {
		b := putEntries(versions)
		if code.Sealed(len(piece)+len(b)) > api.MaxBlock {
			end()
		}
		piece = append(piece, b...)
		to += len(versions)
	}
	end()
	return data, blocks
}

// takeBlock reads the entries of a block; false, if these are not its bytes.
func takeBlock(b []byte, k block) (rows.List, bool) {
	piece, ok := code.Unseal(b)
	if !ok || len(b) != k.size {
		return nil, false
	}
	r := code.NewReader(piece)
	l := make(rows.List, 0, k.count)
	for range k.count {
		batch := r.Long()
		e, ok := rows.Take(r)
		if !ok {
			return nil, false
		}
		e.Batch = batch
		l = append(l, e)
	}
	fits := r.Done() && l.Sorted() && l[0].Key == k.first && l[len(l)-1].Key == k.last
	return l, fits
}

// putIndex writes what the blocks are; where they begin follows from their sizes.
func putIndex(blocks []block) []byte {
	b := code.PutWord(nil, uint32(len(blocks)))
	for _, k := range blocks {
		b = code.PutWord(b, uint32(k.size))
		b = code.PutWord(b, uint32(k.count))
		b = code.PutText(b, k.first)
		b = code.PutText(b, k.last)
	}
	return b
}

// takeIndex reads an index; false, if these bytes are not the index of that table, or no table could have it.
func takeIndex(b []byte, m Mark) ([]block, bool) {
	if code.Sum(b) != m.Sum || len(b) != int(m.Size) {
		return nil, false
	}
	r := code.NewReader(b)
	n := r.Word()
	if n < 1 || n > api.MaxCount {
		return nil, false
	}
	blocks := make([]block, 0, n)
	at, count, last := 0, 0, ""
	for range n {
		k := block{at: at, size: int(r.Word()), count: int(r.Word()), first: r.Text(), last: r.Text()}
		if !k.good() || k.first <= last {
			return nil, false
		}
		blocks = append(blocks, k)
		at, count, last = at+k.size, count+k.count, k.last
	}
	return blocks, r.Done() && at == int(m.At) && count <= api.MaxCount
}

// good tells whether a block is one that can be.
func (k block) good() bool {
	return k.size >= 0 && k.size <= api.MaxBlock &&
		k.count >= 1 && k.count <= api.MaxCount &&
		rows.IsKey(k.first) && rows.IsKey(k.last) && k.first <= k.last
}
