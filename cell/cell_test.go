package cell

import (
	"math"
	"slices"
	"testing"

	"mendkernel/api"
)

// two has two entries: 7 has 5, 9 has -3; what stands behind them means nothing.
func two() []int { return []int{2, 7, 5, 9, -3, 4, 4, 4, 4, 0, 0} }

// full has as many entries as there may be, at the edges of names and numbers.
func full() []int {
	return []int{api.MaxEntries, 1, api.MaxNum, api.MaxName, -api.MaxNum, 2, 0, 3, 1, 4, -1}
}

// with answers two's cells, but for one of them.
func with(at, n int) []int {
	c := two()
	c[at] = n
	return c
}

// spare answers a list whose spare room has entries that must neither change nor be looked at.
func spare[T any](l []T, fill T) []T {
	out := append(slices.Clone(l), slices.Repeat([]T{fill}, 20)...)
	return out[:len(l)]
}

func sameCells(t *testing.T, got, want []int) {
	t.Helper()
	if !slices.Equal(got, want) {
		t.Errorf("cells are %v, not %v", got, want)
	}
}

func sameWrites(t *testing.T, got, want []api.Write) {
	t.Helper()
	if !slices.Equal(got, want) {
		t.Errorf("writes are %v, not %v", got, want)
	}
}

func TestNew(t *testing.T) {
	sameCells(t, New(), make([]int, 11))
	if e := Wrong(New()); e != api.OK {
		t.Errorf("new cells: %d", e)
	}
	c := New()
	c[0], c[10] = 9, 9
	sameCells(t, New(), make([]int, 11))
}

func TestWrongOfHowManyCells(t *testing.T) {
	for n := range 30 {
		want := api.ErrMany
		if n == api.MaxCells {
			want = api.OK
		}
		if e := Wrong(make([]int, n)); e != want {
			t.Errorf("%d cells: %d, not %d", n, e, want)
		}
	}
	if e := Wrong(nil); e != api.ErrMany {
		t.Errorf("nil: %d", e)
	}
	if e := Wrong([]int{-1, 300}); e != api.ErrMany {
		t.Errorf("too few cells, and cell 0 is wrong too: %d", e)
	}
	if e := Wrong(make([]int, 10, 11)); e != api.ErrMany {
		t.Errorf("ten cells with room for one more: %d", e)
	}
}

func TestWrongOfOneCell(t *testing.T) {
	tests := []struct {
		name  string
		at, n int
		want  api.Errno
	}{
		{"cell 0 is negative", 0, -1, api.ErrRange},
		{"cell 0 is the least int", 0, math.MinInt, api.ErrRange},
		{"no entries", 0, 0, api.OK},
		{"one entry", 0, 1, api.OK},
		{"two entries", 0, 2, api.OK},
		{"a third entry, of a name of its own", 0, 3, api.OK},
		{"a fourth entry has the third one's name", 0, 4, api.ErrName},
		{"cell 0 is too large", 0, api.MaxEntries + 1, api.ErrRange},
		{"cell 0 is the greatest int", 0, math.MaxInt, api.ErrRange},
		{"a name below the names", 1, 0, api.ErrRange},
		{"a negative name", 1, -7, api.ErrRange},
		{"the least name", 1, 1, api.OK},
		{"the greatest name", 3, api.MaxName, api.OK},
		{"a name above the names", 3, api.MaxName + 1, api.ErrRange},
		{"the first name is the second one's", 1, 9, api.ErrName},
		{"the second name is the first one's", 3, 7, api.ErrName},
		{"a name like a number", 1, 5, api.OK},
		{"a number like a name", 2, 9, api.OK},
		{"numbers that are the same", 2, -3, api.OK},
		{"the greatest number", 2, api.MaxNum, api.OK},
		{"a number that is too large", 2, api.MaxNum + 1, api.ErrRange},
		{"the least number", 4, -api.MaxNum, api.OK},
		{"a number that is too small", 4, -api.MaxNum - 1, api.ErrRange},
		{"the greatest int as a number", 4, math.MaxInt, api.ErrRange},
		{"the least int as a number", 4, math.MinInt, api.ErrRange},
		{"anything behind the entries", 5, -1, api.OK},
		{"a name of an entry behind them", 5, 7, api.OK},
		{"anything in the last cell", 10, math.MinInt, api.OK},
	}
	for _, x := range tests {
		if e := Wrong(with(x.at, x.n)); e != x.want {
			t.Errorf("%s: %d, not %d", x.name, e, x.want)
		}
	}
}

func TestWrongOfFullCells(t *testing.T) {
	if e := Wrong(full()); e != api.OK {
		t.Errorf("full cells: %d", e)
	}
	for i := range api.MaxEntries {
		c := full()
		c[1+2*i] = api.MaxName + 1
		if e := Wrong(c); e != api.ErrRange {
			t.Errorf("entry %d has a wrong name: %d", i, e)
		}
		c = full()
		c[2+2*i] = -api.MaxNum - 1
		if e := Wrong(c); e != api.ErrRange {
			t.Errorf("entry %d has a wrong number: %d", i, e)
		}
		for j := range i {
			c = full()
			c[1+2*i] = c[1+2*j]
			if e := Wrong(c); e != api.ErrName {
				t.Errorf("entry %d has the name of entry %d: %d", i, j, e)
			}
		}
	}
}

func TestWrongTellsTheFirst(t *testing.T) {
	tests := []struct {
		name string
		c    []int
		want api.Errno
	}{
		{"a name again, whose number is wrong too", []int{2, 7, 5, 7, api.MaxNum + 1, 0, 0, 0, 0, 0, 0}, api.ErrRange},
		{"a name again, ahead of a wrong name", []int{3, 7, 5, 7, 5, 0, 0, 0, 0, 0, 0}, api.ErrName},
		{"a wrong name, ahead of a name again", []int{4, 7, 5, 0, 0, 7, 5, 7, 5, 0, 0}, api.ErrRange},
		{"a wrong name again", []int{2, 0, 5, 0, 5, 0, 0, 0, 0, 0, 0}, api.ErrRange},
		{"cell 0, ahead of a name again", []int{6, 7, 5, 7, 5, 7, 5, 7, 5, 7, 5}, api.ErrRange},
	}
	for _, x := range tests {
		if e := Wrong(x.c); e != x.want {
			t.Errorf("%s: %d, not %d", x.name, e, x.want)
		}
	}
}

func TestFind(t *testing.T) {
	for name, want := range map[int]int{7: 0, 9: 1, 4: -1, 5: -1, -3: -1, 2: -1, 0: -1, -1: -1, math.MaxInt: -1, math.MinInt: -1} {
		if got := Find(two(), name); got != want {
			t.Errorf("%d is entry %d, not %d", name, got, want)
		}
	}
	for want, name := range []int{1, api.MaxName, 2, 3, 4} {
		if got := Find(full(), name); got != want {
			t.Errorf("%d of full cells is entry %d, not %d", name, got, want)
		}
	}
	for _, name := range []int{0, 1, 7} {
		if got := Find(New(), name); got != -1 {
			t.Errorf("%d of new cells is entry %d", name, got)
		}
	}
	if got := Find(with(0, 1), 9); got != -1 {
		t.Errorf("a name behind the entries is entry %d", got)
	}
}

// Of wrong cells nothing is promised but that the call ends, without a panic.
func TestFindOfWrongCellsEnds(t *testing.T) {
	for n := range 14 {
		for _, first := range []int{math.MinInt, -1, 0, 1, 5, 6, 7, math.MaxInt} {
			c := make([]int, n)
			if n > 0 {
				c[0] = first
			}
			Find(c, 0)
			Find(c, 7)
		}
	}
	Find(nil, 0)
}

func TestSet(t *testing.T) {
	tests := []struct {
		name string
		c    []int
		l    []api.Write
		want []int
	}{
		{"no writes", []int{1, 2}, nil, []int{1, 2}},
		{"an empty list of writes", []int{1, 2}, []api.Write{}, []int{1, 2}},
		{"the first cell and the last", []int{1, 2, 3}, []api.Write{{At: 0, N: 8}, {At: 2, N: 9}}, []int{8, 2, 9}},
		{"one cell again and again", []int{1, 2}, []api.Write{{At: 1, N: 8}, {At: 0, N: 5}, {At: 1, N: 9}}, []int{5, 9}},
		{"cells that there are not", []int{1, 2}, []api.Write{{At: -1, N: 8}, {At: 2, N: 8}, {At: math.MaxInt, N: 8}, {At: math.MinInt, N: 8}, {At: 1, N: 9}}, []int{1, 9}},
		{"any number", []int{1, 2}, []api.Write{{At: 0, N: math.MinInt}, {At: 1, N: math.MaxInt}}, []int{math.MinInt, math.MaxInt}},
		{"no cells", nil, []api.Write{{At: 0, N: 1}}, nil},
		{"an empty list of cells", []int{}, []api.Write{{At: 0, N: 1}}, nil},
		{"more cells than a server has", make([]int, 13), []api.Write{{At: 12, N: 1}}, []int{12: 1}},
	}
	for _, x := range tests {
		t.Run(x.name, func(t *testing.T) { sameCells(t, Set(x.c, x.l), x.want) })
	}
}

func TestUndo(t *testing.T) {
	tests := []struct {
		name string
		c    []int
		l    []api.Write
		want []api.Write
	}{
		{"no writes", []int{1, 2}, nil, nil},
		{"an empty list of writes", []int{1, 2}, []api.Write{}, nil},
		{"the last one first", []int{1, 2, 3}, []api.Write{{At: 0, N: 8}, {At: 2, N: 9}}, []api.Write{{At: 2, N: 3}, {At: 0, N: 1}}},
		{"what it has already", []int{1, 2}, []api.Write{{At: 1, N: 2}}, []api.Write{{At: 1, N: 2}}},
		{"one cell again and again", []int{1, 2}, []api.Write{{At: 1, N: 8}, {At: 0, N: 5}, {At: 1, N: 9}}, []api.Write{{At: 1, N: 8}, {At: 0, N: 1}, {At: 1, N: 2}}},
		{"cells that there are not", []int{1, 2}, []api.Write{{At: -1, N: 8}, {At: 2, N: 8}, {At: math.MaxInt, N: 8}, {At: math.MinInt, N: 8}, {At: 1, N: 9}}, []api.Write{{At: 1, N: 2}}},
		{"no cells", nil, []api.Write{{At: 0, N: 1}}, nil},
		{"more cells than a server has", make([]int, 13), []api.Write{{At: 12, N: 1}}, []api.Write{{At: 12, N: 0}}},
	}
	for _, x := range tests {
		t.Run(x.name, func(t *testing.T) { sameWrites(t, Undo(x.c, x.l), x.want) })
	}
}

// Three writes make an entry; three take it back.
func TestAnEntryThereAndBack(t *testing.T) {
	l := []api.Write{{At: 1, N: 7}, {At: 2, N: 5}, {At: 0, N: 1}}
	made := Set(New(), l)
	if e := Wrong(made); e != api.OK || Find(made, 7) != 0 {
		t.Errorf("%v: %d", made, e)
	}
	back := Undo(New(), l)
	sameWrites(t, back, []api.Write{{At: 0}, {At: 2}, {At: 1}})
	sameCells(t, Set(made, back), New())
}

// everyList hands on each list of n writes to cells from -1 to 3.
func everyList(n int, do func([]api.Write)) {
	var grow func(l []api.Write)
	grow = func(l []api.Write) {
		if len(l) == n {
			do(l)
			return
		}
		for at := -1; at <= 3; at++ {
			grow(append(slices.Clone(l), api.Write{At: at, N: 10 + len(l)}))
		}
	}
	grow(nil)
}

func TestTakenBackItIsAsItWas(t *testing.T) {
	c := []int{1, 2, 3}
	for n := range 6 {
		everyList(n, func(l []api.Write) {
			after, back := Set(c, l), Undo(c, l)
			sameCells(t, Set(after, back), c)
			sameCells(t, Set(Set(after, back), Undo(after, back)), after)
			for i := range back {
				sameCells(t, Set(after, back[:i]), Set(c, writesThatAre(c, l)[:len(back)-i]))
			}
		})
	}
}

// writesThatAre answers the writes to cells that there are.
func writesThatAre(c []int, l []api.Write) []api.Write {
	return slices.DeleteFunc(slices.Clone(l), func(w api.Write) bool { return w.At < 0 || w.At >= len(c) })
}

func TestWhoIsApartMayGoFirst(t *testing.T) {
	c := []int{1, 2, 3}
	everyList(2, func(l []api.Write) {
		if l[0].At != l[1].At {
			sameCells(t, Set(c, []api.Write{l[1], l[0]}), Set(c, l))
		}
	})
}

func TestBitByBitAsAtOnce(t *testing.T) {
	c := []int{1, 2, 3}
	everyList(4, func(l []api.Write) {
		for i := range l {
			first := Set(c, l[:i])
			sameCells(t, Set(first, l[i:]), Set(c, l))
			sameWrites(t, append(Undo(first, l[i:]), Undo(c, l[:i])...), Undo(c, l))
		}
	})
}

func TestWhatIsHandedInIsOnlyRead(t *testing.T) {
	c := spare(two(), 77)
	l := spare([]api.Write{{At: 1, N: 8}, {At: 11, N: 1}, {At: 1, N: 9}, {At: 0, N: 3}}, api.Write{At: 2, N: 66})
	wholeC, wholeL := slices.Clone(c[:cap(c)]), slices.Clone(l[:cap(l)])
	Wrong(c)
	Find(c, 9)
	set, undo := Set(c, l), Undo(c, l)
	sameCells(t, c[:cap(c)], wholeC)
	sameWrites(t, l[:cap(l)], wholeL)

	wantSet, wantUndo := []int{3, 9, 5, 9, -3, 4, 4, 4, 4, 0, 0}, []api.Write{{At: 0, N: 2}, {At: 1, N: 8}, {At: 1, N: 7}}
	clear(c[:cap(c)])
	clear(l[:cap(l)])
	sameCells(t, set, wantSet)
	sameWrites(t, undo, wantUndo)
}

func TestWhatIsAnsweredIsTheCallers(t *testing.T) {
	for _, l := range [][]api.Write{nil, {{At: -1, N: 1}}, {{At: 0, N: 1}}} {
		c := spare(two(), 77)
		whole := slices.Clone(c[:cap(c)])
		wrote := slices.Clone(l)
		set, undo := Set(c, l), Undo(c, l)
		clear(set[:cap(set)])
		clear(undo[:cap(undo)])
		sameCells(t, c[:cap(c)], whole)
		sameWrites(t, l, wrote)
	}
}

func TestTheSameAgain(t *testing.T) {
	l := []api.Write{{At: 1, N: 8}, {At: 3, N: 1}}
	for range 3 {
		sameCells(t, Set(two(), l), []int{2, 8, 5, 1, -3, 4, 4, 4, 4, 0, 0})
		sameWrites(t, Undo(two(), l), []api.Write{{At: 3, N: 9}, {At: 1, N: 7}})
	}
}

// TestEntries: cell 0 is trusted only as far as there are cells; one without its number is none.
func TestEntries(t *testing.T) {
	tests := []struct {
		c    []int
		want int
	}{
		{nil, 0},
		{[]int{3}, 0},
		{[]int{3, 1}, 0},
		{[]int{3, 1, 2}, 1},
		{[]int{3, 1, 2, 3}, 1},
		{[]int{math.MaxInt, 1, 2}, 1},
		{New(), 0},
		{two(), 2},
		{full(), api.MaxEntries},
	}
	for _, x := range tests {
		if n := Entries(x.c); n != x.want {
			t.Errorf("%v: %d, not %d", x.c, n, x.want)
		}
	}
}

func TestCellsOfAnEntry(t *testing.T) {
	for i := range api.MaxEntries {
		if NameCell(i) != 1+2*i || NumberCell(i) != 2+2*i {
			t.Errorf("entry %d: %d and %d", i, NameCell(i), NumberCell(i))
		}
	}
}
