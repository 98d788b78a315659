package tables

import (
	"math"
	"slices"

	"levels/rows"
)

// Down is the levels behind a merge of tables of level i, which has some, into the next one. Of level 0 all are taken, for each may have any keys, and the next level with them, so that its tables stay well filled. Of another level one is taken, and what the next level has of its keys.
func (l Levels) Down(i int) (Levels, error) {
	taken, left := l[i], Level(nil)
	before, within, behind := Level(nil), l[i+1], Level(nil)
	if i > 0 {
		j := l.lightest(i)
		taken, left = l[i][j:j+1], slices.Concat(l[i][:j], l[i][j+1:])
		before, within, behind = l[i+1].Cut(taken[0].First(), taken[0].Last())
	}
	// Where nothing older lies below, a deleted key need not be told of any more.
	made, err := merge(taken, within, l.Empty(i+2))
	if err != nil {
		return Levels{}, err
	}
	l[i], l[i+1] = left, slices.Concat(before, made, behind)
	return l, nil
}

// lightest tells the table of a level with whose keys the next level has the fewest entries to be written anew.
func (l *Levels) lightest(i int) int {
	best, least := 0, math.MaxInt
	for j, t := range l[i] {
		_, within, _ := l[i+1].Cut(t.First(), t.Last())
		if n := within.Count(); n < least {
			best, least = j, n
		}
	}
	return best
}

// merge makes new tables of some tables and of a piece of the level below them, without the deleted keys if nothing is older.
func merge(taken, within Level, oldest bool) (Level, error) {
	list := []rows.Row{within}
	for _, t := range taken {
		list = append(list, t)
	}
	next := rows.Newest(list, "")
	if oldest {
		next = rows.Present(next)
	}
	all, err := rows.Collect(next)
	if err != nil {
		return nil, err
	}
	var made Level
	for _, part := range Split(all) {
		made = append(made, New(part))
	}
	return made, nil
}
