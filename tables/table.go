package tables

import (
	"sort"
	"strings"

	"levels/api"
	"levels/files"
	"levels/rows"
)

// Table is an open table: a row on the disk.
type Table struct {
	disk   *api.Disk // nil, as long as it is not written
	mark   Mark
	blocks []block // at least one
	data   []byte  // their bytes, as long as it is not written
}

// Open reads a table's index.
func Open(d *api.Disk, m Mark) (*Table, error) {
	name := files.Table(m.Number)
	b, err := d.ReadAt(name, int(m.At), int(m.Size))
	if err != nil {
		return nil, err
	}
	blocks, ok := takeIndex(b, m)
	if !ok {
		return nil, files.Corrupt(name)
	}
	return &Table{disk: d, mark: m, blocks: blocks}, nil
}

// Written tells whether the table is on the disk.
func (t *Table) Written() bool { return t.disk != nil }

// Mark is what to keep of the table.
func (t *Table) Mark() Mark { return t.mark }

// Name is the name of its file.
func (t *Table) Name() string { return files.Table(t.mark.Number) }

// First is its first key.
func (t *Table) First() string { return t.blocks[0].first }

// Last is its last key.
func (t *Table) Last() string { return t.blocks[len(t.blocks)-1].last }

// Count is how many entries it has.
func (t *Table) Count() int {
	n := 0
	for _, k := range t.blocks {
		n += k.count
	}
	return n
}

// Shape tells what the table is, in texts of which the table has no part.
func (t *Table) Shape() api.Table {
	return api.Table{Name: t.Name(), First: strings.Clone(t.First()), Last: strings.Clone(t.Last()), Count: t.Count()}
}

// bytes reads the bytes of a block.
func (t *Table) bytes(k block) ([]byte, error) {
	if !t.Written() {
		return t.data[k.at : k.at+k.size], nil
	}
	return t.disk.ReadAt(t.Name(), k.at, k.size)
}

// read reads a block.
func (t *Table) read(i int) (rows.List, error) {
	k := t.blocks[i]
	b, err := t.bytes(k)
	if err != nil {
		return nil, err
	}
	l, ok := takeBlock(b, k)
	if !ok {
		return nil, files.Corrupt(t.Name())
	}
	return l, nil
}

// place tells the first block that ends not below a key.
func (t *Table) place(key string) int {
	return sort.Search(len(t.blocks), func(i int) bool { return t.blocks[i].last >= key })
}

// Find is Row's: it reads one block, and none if the key is between two.
func (t *Table) Find(key string, batch uint64) (rows.Entry, bool, error) {
	i := t.place(key)
	if i == len(t.blocks) || t.blocks[i].first > key {
		return rows.Entry{}, false, nil
	}
	l, err := t.read(i)
	if err != nil {
		return rows.Entry{}, false, err
	}
	return l.Find(key, batch)
}

// From is Row's: it reads block by block, as they are asked for.
func (t *Table) From(lo string) rows.Next {
	begin := t.place(lo)
	return rows.Chain(len(t.blocks)-begin, func(i int) (rows.Next, error) {
		l, err := t.read(begin + i)
		return l.From(lo), err
	})
}
