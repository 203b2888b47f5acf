// Package cell has cells: see doc/01-cell.md.
package cell

import (
	"slices"

	"mendkernel/api"
)

// New answers cells that have no entry.
func New() []int { return make([]int, api.MaxCells) }

// Wrong answers what is wrong with cells; OK, if they are right.
func Wrong(c []int) api.Errno {
	if len(c) != api.MaxCells {
		return api.ErrMany
	}
	if !within(c[0], 0, api.MaxEntries) {
		return api.ErrRange
	}
	for i := range c[0] {
		if e := wrongEntry(c, i); e != api.OK {
			return e
		}
	}
	return api.OK
}

// Find answers which entry has that name; -1, if none has it.
func Find(c []int, name int) int { return findAmong(c, Entries(c), name) }

// Set answers what the cells are behind all those writes.
func Set(c []int, l []api.Write) []int {
	out := own(c)
	for _, w := range l {
		if has(out, w.At) {
			out[w.At] = w.N
		}
	}
	return out
}

// Undo answers the writes that take those of l back, where they are done in turn.
func Undo(c []int, l []api.Write) []api.Write {
	now := own(c)
	var out []api.Write
	for _, w := range l {
		if has(now, w.At) {
			out = append(out, api.Write{At: w.At, N: now[w.At]})
			now[w.At] = w.N
		}
	}
	slices.Reverse(out)
	return out
}

// wrongEntry needs cells of the right count: i is an entry that they have room for.
func wrongEntry(c []int, i int) api.Errno {
	name, number := c[NameCell(i)], c[NumberCell(i)]
	if !within(name, 1, api.MaxName) || !within(number, -api.MaxNum, api.MaxNum) {
		return api.ErrRange
	}
	if findAmong(c, i, name) >= 0 {
		return api.ErrName
	}
	return api.OK
}

// Entries trusts cell 0 only as far as there are cells, so that whoever goes through the entries of wrong cells ends within them.
func Entries(c []int) int {
	if len(c) == 0 {
		return 0
	}
	return min(c[0], (len(c)-1)/2)
}

// findAmong looks at the first n entries only.
func findAmong(c []int, n, name int) int {
	for i := range n {
		if c[NameCell(i)] == name {
			return i
		}
	}
	return -1
}

// NameCell answers which cell has the name of entry i.
func NameCell(i int) int { return 1 + 2*i }

// NumberCell answers which cell has the number of entry i.
func NumberCell(i int) int { return NameCell(i) + 1 }

func has(c []int, at int) bool { return at >= 0 && at < len(c) }

func within(n, least, most int) bool { return n >= least && n <= most }

// own makes a copy, since what is handed in is only read.
func own(c []int) []int {
	out := make([]int, len(c))
	copy(out, c)
	return out
}
