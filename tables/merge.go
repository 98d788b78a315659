package tables

import (
	"math"
	"slices"

	"levels/rows"
)

// Down is the levels behind a merge of tables of level i, which has some, into the next one. Of level 0 all are taken, for each may have any keys, and the next level with them, so that its tables stay well filled. Of another level one is taken, and what the next level has of its keys. What was there at these moments (numbers of batches, at most MaxSnaps) is kept.
func (l Levels) Down(i int, moments []uint64) (Levels, error) {
	taken, left := l[i], Level(nil)
	before, within, behind := Level(nil), l[i+1], Level(nil)
	if i > 0 {
		j := l.lightest(i)
		taken, left = l[i][j:j+1], slices.Concat(l[i][:j], l[i][j+1:])
		before, within, behind = l[i+1].Cut(taken[0].First(), taken[0].Last())
	}
	all, err := merged(taken, within)
	if err != nil {
		return Levels{}, err
	}
	all = all.Needed(moments)
	if l.Empty(i + 2) {
		// Nothing older lies below.
		all = all.Bare()
	}
	l[i], l[i+1] = left, slices.Concat(before, newTables(all), behind)
	return l, nil
}

// Least is levels with no more of all entries that there are than is needed, now and at these moments. They are in the deepest level: no other may have so many tables, and nothing older lies below it.
func Least(all rows.List, moments []uint64) Levels {
	return Levels{Deepest: newTables(all.Needed(moments).Bare())}
}

// lightest tells the table of a level with whose keys the next level has the fewest entries to be written anew.
func (l *Levels) lightest(i int) int {
	best, least := 0, math.MaxInt
	for j, t := range l[i] {
		_, within, _ := l[i+1].Cut(t.First(), t.Last())
		if n := within.Count(); n < least {
			best, least = j, n
		}
	}
	return best
}

// merged is the entries of some tables and of a piece of the level below them.
func merged(taken, within Level) (rows.List, error) {
	list := []rows.Row{within}
	for _, t := range taken {
		list = append(list, t)
	}
	return rows.Collect(rows.From(list, ""))
}

// newTables makes tables of entries.
func newTables(l rows.List) Level {
	var made Level
	for _, part := range Split(l) {
		made = append(made, New(part))
	}
	return made
}
