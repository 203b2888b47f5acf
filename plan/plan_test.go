package plan

import (
	"math"
	"slices"
	"testing"

	"mendkernel/api"
	"mendkernel/cell"
	"mendkernel/model"
)

const (
	most = api.MaxNum
	last = api.MaxName
)

// one has one entry; three has three; what stands behind them means nothing, though there are names there too.
func one() []int   { return []int{1, 7, 5, 3, 3, 7, 7, 0, 0, -1, math.MinInt} }
func three() []int { return []int{3, 7, 5, 9, -3, 2, most, 4, 4, 7, 0} }

// full has as many entries as there may be, at the edges of names and numbers.
func full() []int { return []int{5, 1, 10, 2, 20, 3, -most, 4, 40, last, most} }

// entries answers cells of the first n entries of full's, with full's numbers behind them.
func entries(n int) []int {
	c := full()
	c[0] = n
	return c
}

func manyCells() [][]int {
	out := [][]int{cell.New(), one(), three()}
	for n := range api.MaxEntries + 1 {
		out = append(out, entries(n))
	}
	return out
}

// manyCalls has every kind, with names that are there and such that are not, and numbers at the edges.
func manyCalls() []api.Call {
	names := []int{1, 2, 3, 4, 5, 7, 9, last}
	out := []api.Call{{Kind: api.CallCount}}
	for _, name := range names {
		out = append(out, api.Call{Kind: api.CallGet, Name: name}, api.Call{Kind: api.CallDrop, Name: name})
		for _, n := range []int{-most, -1, 0, 1, 6, most} {
			out = append(out, api.Call{Kind: api.CallPut, Name: name, N: n}, api.Call{Kind: api.CallAdd, Name: name, N: n})
		}
		for _, other := range names {
			out = append(out, api.Call{Kind: api.CallSwap, Name: name, Other: other})
		}
	}
	return out
}

// everyPair hands on all of those cells with all of those calls.
func everyPair(t *testing.T, do func(c []int, call api.Call)) {
	t.Helper()
	for _, c := range manyCells() {
		if e := cell.Wrong(c); e != api.OK {
			t.Fatalf("%v are wrong: %d", c, e)
		}
		for _, call := range manyCalls() {
			if e := model.Wrong(call); e != api.OK {
				t.Fatalf("%v is wrong: %d", call, e)
			}
			do(c, call)
		}
	}
}

func TestMake(t *testing.T) {
	tests := []struct {
		name string
		c    []int
		call api.Call
		want []api.Write
		say  api.Reply
	}{
		{"put the first one", cell.New(), api.Call{Kind: api.CallPut, Name: 7, N: 5}, []api.Write{{At: 1, N: 7}, {At: 2, N: 5}, {At: 0, N: 1}}, api.Reply{}},
		{"put a new one", three(), api.Call{Kind: api.CallPut, Name: 1, N: -8}, []api.Write{{At: 7, N: 1}, {At: 8, N: -8}, {At: 0, N: 4}}, api.Reply{}},
		{"put a new one, of 0", three(), api.Call{Kind: api.CallPut, Name: last}, []api.Write{{At: 7, N: last}, {At: 8}, {At: 0, N: 4}}, api.Reply{}},
		{"put a new one where its name stands already", three(), api.Call{Kind: api.CallPut, Name: 4, N: 4}, []api.Write{{At: 7, N: 4}, {At: 8, N: 4}, {At: 0, N: 4}}, api.Reply{}},
		{"put the last one that there is room for", entries(4), api.Call{Kind: api.CallPut, Name: 9, N: most}, []api.Write{{At: 9, N: 9}, {At: 10, N: most}, {At: 0, N: 5}}, api.Reply{}},
		{"put one too many", full(), api.Call{Kind: api.CallPut, Name: 9, N: 1}, nil, api.Reply{Err: api.ErrFull}},
		{"put what is there", three(), api.Call{Kind: api.CallPut, Name: 9, N: 8}, []api.Write{{At: 4, N: 8}}, api.Reply{N: -3}},
		{"put what it has", three(), api.Call{Kind: api.CallPut, Name: 7, N: 5}, []api.Write{{At: 2, N: 5}}, api.Reply{N: 5}},
		{"put what is there, and all are", full(), api.Call{Kind: api.CallPut, Name: last, N: -most}, []api.Write{{At: 10, N: -most}}, api.Reply{N: most}},
		{"get", three(), api.Call{Kind: api.CallGet, Name: 9}, nil, api.Reply{N: -3}},
		{"get what is not there", three(), api.Call{Kind: api.CallGet, Name: 4}, nil, api.Reply{Err: api.ErrNone}},
		{"drop the first one", three(), api.Call{Kind: api.CallDrop, Name: 7}, []api.Write{{At: 1, N: 2}, {At: 2, N: most}, {At: 0, N: 2}}, api.Reply{N: 5}},
		{"drop one in the midst", three(), api.Call{Kind: api.CallDrop, Name: 9}, []api.Write{{At: 3, N: 2}, {At: 4, N: most}, {At: 0, N: 2}}, api.Reply{N: -3}},
		{"drop the last one", three(), api.Call{Kind: api.CallDrop, Name: 2}, []api.Write{{At: 0, N: 2}}, api.Reply{N: most}},
		{"drop the only one", one(), api.Call{Kind: api.CallDrop, Name: 7}, []api.Write{{At: 0}}, api.Reply{N: 5}},
		{"drop one of all", full(), api.Call{Kind: api.CallDrop, Name: 4}, []api.Write{{At: 7, N: last}, {At: 8, N: most}, {At: 0, N: 4}}, api.Reply{N: 40}},
		{"drop what is not there", three(), api.Call{Kind: api.CallDrop, Name: 4}, nil, api.Reply{Err: api.ErrNone}},
		{"drop of none", cell.New(), api.Call{Kind: api.CallDrop, Name: 1}, nil, api.Reply{Err: api.ErrNone}},
		{"add", three(), api.Call{Kind: api.CallAdd, Name: 7, N: -2}, []api.Write{{At: 2, N: 3}}, api.Reply{N: 3}},
		{"add 0", three(), api.Call{Kind: api.CallAdd, Name: 9}, []api.Write{{At: 4, N: -3}}, api.Reply{N: -3}},
		{"add up to the most", three(), api.Call{Kind: api.CallAdd, Name: 7, N: most - 5}, []api.Write{{At: 2, N: most}}, api.Reply{N: most}},
		{"add one too many", three(), api.Call{Kind: api.CallAdd, Name: 7, N: most - 4}, nil, api.Reply{Err: api.ErrRange}},
		{"add down to the least", three(), api.Call{Kind: api.CallAdd, Name: 9, N: 3 - most}, []api.Write{{At: 4, N: -most}}, api.Reply{N: -most}},
		{"add one too few", three(), api.Call{Kind: api.CallAdd, Name: 9, N: 2 - most}, nil, api.Reply{Err: api.ErrRange}},
		{"add to what is not there", three(), api.Call{Kind: api.CallAdd, Name: 4, N: 1}, nil, api.Reply{Err: api.ErrNone}},
		{"count of none", cell.New(), api.Call{Kind: api.CallCount}, nil, api.Reply{}},
		{"count", three(), api.Call{Kind: api.CallCount}, nil, api.Reply{N: 3}},
		{"count of all", full(), api.Call{Kind: api.CallCount}, nil, api.Reply{N: 5}},
		{"swap", three(), api.Call{Kind: api.CallSwap, Name: 7, Other: 2}, []api.Write{{At: 2, N: most}, {At: 6, N: 5}}, api.Reply{N: most}},
		{"swap back to front", three(), api.Call{Kind: api.CallSwap, Name: 2, Other: 7}, []api.Write{{At: 6, N: 5}, {At: 2, N: most}}, api.Reply{N: 5}},
		{"swap with itself", three(), api.Call{Kind: api.CallSwap, Name: 9, Other: 9}, []api.Write{{At: 4, N: -3}, {At: 4, N: -3}}, api.Reply{N: -3}},
		{"swap what is not there", three(), api.Call{Kind: api.CallSwap, Name: 4, Other: 7}, nil, api.Reply{Err: api.ErrNone}},
		{"swap with what is not there", three(), api.Call{Kind: api.CallSwap, Name: 7, Other: 4}, nil, api.Reply{Err: api.ErrNone}},
	}
	for _, x := range tests {
		l, r := Make(x.c, x.call)
		if !slices.Equal(l, x.want) || r != x.say {
			t.Errorf("%s: %v and %v, not %v and %v", x.name, l, r, x.want, x.say)
		}
	}
}

// TestBitByBitAsAtOnce: the writes, done, are what chapter 2 does at once, and it tells the same.
func TestBitByBitAsAtOnce(t *testing.T) {
	everyPair(t, func(c []int, call api.Call) {
		l, r := Make(c, call)
		names, say := model.Do(model.Of(c), call)
		after := cell.Set(c, l)
		if e := cell.Wrong(after); e != api.OK {
			t.Fatalf("%v of %v: %v are wrong: %d", call, c, after, e)
		}
		if got := model.Of(after); r != say || !slices.Equal(got, names) {
			t.Errorf("%v of %v: %v and %v, not %v and %v", call, c, got, r, names, say)
		}
		if r.Err != api.OK && len(l) != 0 {
			t.Errorf("%v of %v: %d, and yet %v", call, c, r.Err, l)
		}
	})
}

// TestNobodySeesItAheadOfTime: as long as a new name's last write is not done, names have what they had.
func TestNobodySeesItAheadOfTime(t *testing.T) {
	seen := 0
	everyPair(t, func(c []int, call api.Call) {
		l, r := Make(c, call)
		if call.Kind != api.CallPut || r.Err != api.OK || cell.Find(c, call.Name) >= 0 {
			return
		}
		seen++
		for i := range l {
			if got := model.Of(cell.Set(c, l[:i])); !slices.Equal(got, model.Of(c)) {
				t.Errorf("%v of %v: behind %d writes %v", call, c, i, got)
			}
		}
		if len(l) != 3 || l[2].At != 0 {
			t.Errorf("%v of %v: %v", call, c, l)
		}
	})
	if seen == 0 {
		t.Error("no new name was put")
	}
}

// TestTakenBackInTheMidst: whatever is done of a plan can be taken back, since all of its cells are there.
func TestTakenBackInTheMidst(t *testing.T) {
	everyPair(t, func(c []int, call api.Call) {
		l, _ := Make(c, call)
		for i := range len(l) + 1 {
			back := cell.Undo(c, l[:i])
			if len(back) != i || !slices.Equal(cell.Set(cell.Set(c, l[:i]), back), c) {
				t.Errorf("%v of %v: %d of %v are taken back by %v", call, c, i, l, back)
			}
		}
	})
}

// TestOneBehindTheOther: plan behind plan, cells stay right, and tell what All does.
func TestOneBehindTheOther(t *testing.T) {
	c := cell.New()
	var past []api.Request
	calls := manyCalls()
	for i := range 5 * len(calls) {
		call := calls[i*89%len(calls)]
		l, r := Make(c, call)
		c = cell.Set(c, l)
		past = append(past, api.Request{Call: call})
		if e := cell.Wrong(c); e != api.OK {
			t.Fatalf("behind %v: %v are wrong: %d", call, c, e)
		}
		names, told := model.All(past)
		if r != told[i] || !slices.Equal(model.Of(c), names) {
			t.Fatalf("behind %v: %v and %v, not %v and %v", call, model.Of(c), r, names, told[i])
		}
	}
}

// TestMakeOnlyReads: cells stay, with their spare room, and what is answered is the caller's.
func TestMakeOnlyReads(t *testing.T) {
	everyPair(t, func(c []int, call api.Call) {
		want, say := Make(c, call)
		all := append(slices.Clone(c), slices.Repeat([]int{call.Name}, 20)...)
		kept := slices.Clone(all)
		l, r := Make(all[:len(c)], call)
		if !slices.Equal(l, want) || r != say {
			t.Errorf("%v of %v with spare room: %v and %v, not %v and %v", call, c, l, r, want, say)
		}
		if !slices.Equal(all, kept) {
			t.Errorf("%v of %v: they are %v now", call, c, all)
		}
		clear(all)
		if !slices.Equal(l, want) {
			t.Errorf("%v of %v: the writes are %v now, not %v", call, c, l, want)
		}
		clear(l[:cap(l)])
		if again, _ := Make(c, call); !slices.Equal(again, want) {
			t.Errorf("%v of %v: again they are %v, not %v", call, c, again, want)
		}
	})
}

// TestMakeWrongCalls: D1 speaks of right calls only; of others nothing may panic, and of no kind there are no writes.
func TestMakeWrongCalls(t *testing.T) {
	edges := []int{math.MinInt, -1, 0, 7, 9, math.MaxInt}
	for _, c := range manyCells() {
		for kind := -1; kind <= 8; kind++ {
			for _, a := range edges {
				for _, b := range edges {
					l, _ := Make(c, api.Call{Kind: kind, Name: a, Other: b, N: b})
					if (kind < api.CallPut || kind > api.CallSwap) && len(l) != 0 {
						t.Errorf("kind %d of %v: %v", kind, c, l)
					}
				}
			}
		}
	}
}

// TestMakeWrongCells: D1 speaks of right cells only; of others nothing may panic, whatever cell 0 tells.
func TestMakeWrongCells(t *testing.T) {
	calls := manyCalls()
	for _, call := range calls {
		Make(nil, call)
		for n := range 20 {
			for _, first := range []int{math.MinInt, -1, 0, 1, 4, 5, 6, 9, math.MaxInt} {
				for _, fill := range []int{0, 7, math.MaxInt} {
					c := slices.Repeat([]int{fill}, n)
					if n > 0 {
						c[0] = first
					}
					Make(c, call)
				}
			}
		}
	}
}
