package model

import (
	"math"
	"slices"
	"testing"

	"mendkernel/api"
	"mendkernel/cell"
)

const (
	most = api.MaxNum
	last = api.MaxName
)

// three has a few names, at the edges of numbers too.
func three() []api.Write { return []api.Write{{At: 7, N: 5}, {At: 9, N: -3}, {At: 2, N: most}} }

// full has as many names as there may be.
func full() []api.Write {
	return []api.Write{{At: 1, N: 10}, {At: 2, N: 20}, {At: 3, N: -most}, {At: 4, N: 40}, {At: last, N: 50}}
}

// spare answers a list whose spare room has entries that must neither change nor be looked at.
func spare(l []api.Write) []api.Write {
	out := append(slices.Clone(l), slices.Repeat([]api.Write{{At: 99, N: 99}}, 20)...)
	return out[:len(l):len(out)]
}

func same(t *testing.T, what any, l, want []api.Write, r, say api.Reply) {
	t.Helper()
	if !slices.Equal(l, want) {
		t.Errorf("%v: names are %v, not %v", what, l, want)
	}
	if r != say {
		t.Errorf("%v: told is %v, not %v", what, r, say)
	}
}

// TestWrong takes every kind with every value at an edge, and asks the rules of B1 as a table of what each kind has.
func TestWrong(t *testing.T) {
	type has struct{ name, other, n bool }
	kinds := map[int]has{
		api.CallPut:   {name: true, n: true},
		api.CallGet:   {name: true},
		api.CallDrop:  {name: true},
		api.CallAdd:   {name: true, n: true},
		api.CallCount: {},
		api.CallSwap:  {name: true, other: true},
	}
	fits := func(x int, has bool, least, most int) bool {
		if !has {
			return x == 0
		}
		return least <= x && x <= most
	}
	names := []int{math.MinInt, -1, 0, 1, 2, last, last + 1, math.MaxInt}
	numbers := []int{math.MinInt, -most - 1, -most, -1, 0, 1, most, most + 1, math.MaxInt}
	for _, kind := range []int{math.MinInt, -1, 0, 1, 2, 3, 4, 5, 6, 7, 8, math.MaxInt} {
		for _, name := range names {
			for _, other := range names {
				for _, n := range numbers {
					h, ok := kinds[kind]
					want := api.OK
					switch {
					case !ok:
						want = api.ErrKind
					case !fits(name, h.name, 1, last) || !fits(other, h.other, 1, last):
						want = api.ErrName
					case !fits(n, h.n, -most, most):
						want = api.ErrRange
					}
					c := api.Call{Kind: kind, Name: name, Other: other, N: n}
					if e := Wrong(c); e != want {
						t.Fatalf("%v: %d, not %d", c, e, want)
					}
				}
			}
		}
	}
}

func TestWrongByHand(t *testing.T) {
	tests := []struct {
		c    api.Call
		want api.Errno
	}{
		{api.Call{}, api.ErrKind},
		{api.Call{Kind: 7, Name: 300, N: most + 1}, api.ErrKind},
		{api.Call{Kind: api.CallPut, N: most + 1}, api.ErrName},
		{api.Call{Kind: api.CallPut, Name: 1, N: most + 1}, api.ErrRange},
		{api.Call{Kind: api.CallPut, Name: 255, N: -most}, api.OK},
		{api.Call{Kind: api.CallPut, Name: 1, Other: 1}, api.ErrName},
		{api.Call{Kind: api.CallGet, Name: 1, N: 1}, api.ErrRange},
		{api.Call{Kind: api.CallDrop, Name: 256}, api.ErrName},
		{api.Call{Kind: api.CallAdd, Name: 1, N: most}, api.OK},
		{api.Call{Kind: api.CallCount}, api.OK},
		{api.Call{Kind: api.CallCount, Name: 1}, api.ErrName},
		{api.Call{Kind: api.CallCount, N: 1}, api.ErrRange},
		{api.Call{Kind: api.CallSwap, Name: 1}, api.ErrName},
		{api.Call{Kind: api.CallSwap, Name: 1, Other: 1}, api.OK},
		{api.Call{Kind: api.CallSwap, Name: 1, Other: 2, N: 1}, api.ErrRange},
	}
	for _, x := range tests {
		if e := Wrong(x.c); e != x.want {
			t.Errorf("%v: %d, not %d", x.c, e, x.want)
		}
	}
}

func TestDo(t *testing.T) {
	tests := []struct {
		name string
		l    []api.Write
		c    api.Call
		want []api.Write
		say  api.Reply
	}{
		{"count of none", nil, api.Call{Kind: api.CallCount}, nil, api.Reply{}},
		{"count of an empty list", []api.Write{}, api.Call{Kind: api.CallCount}, nil, api.Reply{}},
		{"count", three(), api.Call{Kind: api.CallCount}, three(), api.Reply{N: 3}},
		{"count of all", full(), api.Call{Kind: api.CallCount}, full(), api.Reply{N: api.MaxEntries}},
		{"put the first one", nil, api.Call{Kind: api.CallPut, Name: 7, N: 5}, []api.Write{{At: 7, N: 5}}, api.Reply{}},
		{"put a new one", three(), api.Call{Kind: api.CallPut, Name: 1, N: 8}, append(three(), api.Write{At: 1, N: 8}), api.Reply{}},
		{"put the last one that there is room for", full()[:4], api.Call{Kind: api.CallPut, Name: last, N: 50}, full(), api.Reply{}},
		{"put what is there", three(), api.Call{Kind: api.CallPut, Name: 9, N: 8}, []api.Write{{At: 7, N: 5}, {At: 9, N: 8}, {At: 2, N: most}}, api.Reply{N: -3}},
		{"put 0", three(), api.Call{Kind: api.CallPut, Name: 7}, []api.Write{{At: 7}, {At: 9, N: -3}, {At: 2, N: most}}, api.Reply{N: 5}},
		{"put what is there, and all are", full(), api.Call{Kind: api.CallPut, Name: last, N: 51}, append(full()[:4], api.Write{At: last, N: 51}), api.Reply{N: 50}},
		{"put one too many", full(), api.Call{Kind: api.CallPut, Name: 5, N: 1}, full(), api.Reply{Err: api.ErrFull}},
		{"get", three(), api.Call{Kind: api.CallGet, Name: 9}, three(), api.Reply{N: -3}},
		{"get what is not there", three(), api.Call{Kind: api.CallGet, Name: 1}, three(), api.Reply{Err: api.ErrNone}},
		{"get of none", nil, api.Call{Kind: api.CallGet, Name: 1}, nil, api.Reply{Err: api.ErrNone}},
		{"drop the first one", three(), api.Call{Kind: api.CallDrop, Name: 7}, []api.Write{{At: 2, N: most}, {At: 9, N: -3}}, api.Reply{N: 5}},
		{"drop one in the midst", three(), api.Call{Kind: api.CallDrop, Name: 9}, []api.Write{{At: 7, N: 5}, {At: 2, N: most}}, api.Reply{N: -3}},
		{"drop the last one", three(), api.Call{Kind: api.CallDrop, Name: 2}, three()[:2], api.Reply{N: most}},
		{"drop the only one", three()[:1], api.Call{Kind: api.CallDrop, Name: 7}, nil, api.Reply{N: 5}},
		{"drop what is not there", three(), api.Call{Kind: api.CallDrop, Name: 1}, three(), api.Reply{Err: api.ErrNone}},
		{"add", three(), api.Call{Kind: api.CallAdd, Name: 7, N: -2}, []api.Write{{At: 7, N: 3}, {At: 9, N: -3}, {At: 2, N: most}}, api.Reply{N: 3}},
		{"add up to the most", three(), api.Call{Kind: api.CallAdd, Name: 7, N: most - 5}, []api.Write{{At: 7, N: most}, {At: 9, N: -3}, {At: 2, N: most}}, api.Reply{N: most}},
		{"add one too many", three(), api.Call{Kind: api.CallAdd, Name: 7, N: most - 4}, three(), api.Reply{Err: api.ErrRange}},
		{"add down to the least", three(), api.Call{Kind: api.CallAdd, Name: 9, N: 3 - most}, []api.Write{{At: 7, N: 5}, {At: 9, N: -most}, {At: 2, N: most}}, api.Reply{N: -most}},
		{"add one too few", three(), api.Call{Kind: api.CallAdd, Name: 9, N: 2 - most}, three(), api.Reply{Err: api.ErrRange}},
		{"add the most to the most", three(), api.Call{Kind: api.CallAdd, Name: 2, N: most}, three(), api.Reply{Err: api.ErrRange}},
		{"add to what is not there", three(), api.Call{Kind: api.CallAdd, Name: 1, N: 1}, three(), api.Reply{Err: api.ErrNone}},
		{"swap", three(), api.Call{Kind: api.CallSwap, Name: 7, Other: 2}, []api.Write{{At: 7, N: most}, {At: 9, N: -3}, {At: 2, N: 5}}, api.Reply{N: most}},
		{"swap back to front", three(), api.Call{Kind: api.CallSwap, Name: 2, Other: 7}, []api.Write{{At: 7, N: most}, {At: 9, N: -3}, {At: 2, N: 5}}, api.Reply{N: 5}},
		{"swap with itself", three(), api.Call{Kind: api.CallSwap, Name: 9, Other: 9}, three(), api.Reply{N: -3}},
		{"swap what is not there", three(), api.Call{Kind: api.CallSwap, Name: 1, Other: 7}, three(), api.Reply{Err: api.ErrNone}},
		{"swap with what is not there", three(), api.Call{Kind: api.CallSwap, Name: 7, Other: 1}, three(), api.Reply{Err: api.ErrNone}},
	}
	for _, x := range tests {
		l, r := Do(x.l, x.c)
		same(t, x.name, l, x.want, r, x.say)
	}
}

// TestDoOfNoSuchKind: B2 speaks of right calls only; others change nothing.
func TestDoOfNoSuchKind(t *testing.T) {
	for _, kind := range []int{math.MinInt, -1, 0, 7, math.MaxInt} {
		l, r := Do(three(), api.Call{Kind: kind, Name: 7, Other: 9, N: 1})
		same(t, kind, l, three(), r, api.Reply{Err: api.ErrKind})
	}
}

// fewCalls has every kind, of few names and numbers.
func fewCalls(names, numbers []int) []api.Call {
	out := []api.Call{{Kind: api.CallCount}}
	for _, name := range names {
		out = append(out, api.Call{Kind: api.CallGet, Name: name}, api.Call{Kind: api.CallDrop, Name: name})
		for _, n := range numbers {
			out = append(out, api.Call{Kind: api.CallPut, Name: name, N: n}, api.Call{Kind: api.CallAdd, Name: name, N: n})
		}
		for _, other := range names {
			out = append(out, api.Call{Kind: api.CallSwap, Name: name, Other: other})
		}
	}
	return out
}

// plainly does a call to a map, in which names have no order.
func plainly(has map[int]int, c api.Call) api.Reply {
	had, there := has[c.Name]
	_, other := has[c.Other]
	switch {
	case c.Kind == api.CallCount:
		return api.Reply{N: len(has)}
	case c.Kind == api.CallPut && !there && len(has) == 5:
		return api.Reply{Err: api.ErrFull}
	case c.Kind == api.CallPut:
		has[c.Name] = c.N
		return api.Reply{N: had}
	case !there || c.Kind == api.CallSwap && !other:
		return api.Reply{Err: api.ErrNone}
	case c.Kind == api.CallAdd && (had+c.N > 1<<30 || had+c.N < -1<<30):
		return api.Reply{Err: api.ErrRange}
	case c.Kind == api.CallAdd:
		has[c.Name] += c.N
	case c.Kind == api.CallSwap:
		has[c.Name], has[c.Other] = has[c.Other], has[c.Name]
	case c.Kind == api.CallDrop:
		delete(has, c.Name)
		return api.Reply{N: had}
	}
	return api.Reply{N: has[c.Name]}
}

// asMap answers names without their order; it fails if two are alike, or they are not right.
func asMap(t *testing.T, l []api.Write) map[int]int {
	t.Helper()
	out := map[int]int{}
	for _, w := range l {
		out[w.At] = w.N
		if w.N < -most || w.N > most {
			t.Fatalf("%v: a number is out of range", l)
		}
	}
	if len(out) != len(l) || len(l) > api.MaxEntries {
		t.Fatalf("%v: alike, or too many", l)
	}
	return out
}

// walk does every row of depth calls, and holds each against plainly.
func walk(t *testing.T, l []api.Write, calls []api.Call, depth int) {
	if depth == 0 {
		return
	}
	before := slices.Clone(l)
	for _, c := range calls {
		has := asMap(t, l)
		want := plainly(has, c)
		next, r := Do(l, c)
		got := asMap(t, next)
		if r != want || len(got) != len(has) {
			t.Fatalf("%v of %v: %v and %v, not %v and %v", c, l, next, r, has, want)
		}
		for name, n := range has {
			if got[name] != n {
				t.Fatalf("%v of %v: %v, not %v", c, l, next, has)
			}
		}
		if !slices.Equal(l, before) {
			t.Fatalf("%v changed what it was handed: %v, not %v", c, l, before)
		}
		if r.Err != api.OK && !slices.Equal(next, l) {
			t.Fatalf("%v: an error, and %v became %v", c, l, next)
		}
		walk(t, next, calls, depth-1)
	}
}

// TestWhatMayBeStaysSo goes every row of a few calls, from no names and from all but one on.
func TestWhatMayBeStaysSo(t *testing.T) {
	walk(t, nil, fewCalls([]int{1, 2, 3}, []int{most, -1}), 4)
	walk(t, full()[:4], fewCalls([]int{1, 4, 5, last}, []int{-most, 7}), 3)
}

// TestTurnedTwice: a swap twice over is none, and what is put and dropped again was never there.
func TestTurnedTwice(t *testing.T) {
	for _, a := range full() {
		for _, b := range full() {
			c := api.Call{Kind: api.CallSwap, Name: a.At, Other: b.At}
			once, _ := Do(full(), c)
			twice, r := Do(once, c)
			same(t, c, twice, full(), r, api.Reply{N: a.N})
		}
	}
	l, _ := Do(three(), api.Call{Kind: api.CallPut, Name: 1, N: 8})
	l, r := Do(l, api.Call{Kind: api.CallDrop, Name: 1})
	same(t, "put and drop", l, three(), r, api.Reply{N: 8})
}

func TestDoOnlyReads(t *testing.T) {
	for _, c := range fewCalls([]int{1, 7, 9, 99}, []int{1}) {
		in := spare(three())
		want, say := Do(three(), c)
		l, r := Do(in, c)
		same(t, c, l, want, r, say)
		all := in[:cap(in)]
		if !slices.Equal(in, three()) || slices.ContainsFunc(all[3:], func(w api.Write) bool { return w.At != 99 || w.N != 99 }) {
			t.Errorf("%v changed what it was handed: %v", c, all)
		}
		for i := range l {
			l[i] = api.Write{At: 77, N: 77}
		}
		_ = append(l, api.Write{At: 77, N: 77})
		if slices.Contains(all, api.Write{At: 77, N: 77}) {
			t.Errorf("%v: what it answers is what it was handed", c)
		}
	}
}

func TestAll(t *testing.T) {
	for _, l := range [][]api.Request{nil, {}} {
		names, told := All(l)
		if len(names) != 0 || len(told) != 0 {
			t.Errorf("of none: %v and %v", names, told)
		}
	}
	l := []api.Request{
		{Client: 2, Token: 9, Call: api.Call{Kind: api.CallPut, Name: 7, N: 5}},
		{Client: -1, Call: api.Call{Kind: api.CallGet, Name: 8}},
		{Client: 2, Token: 9, Call: api.Call{Kind: api.CallPut, Name: 8, N: 1}},
		{Token: 1, Call: api.Call{Kind: api.CallAdd, Name: 7, N: -2}},
		{Call: api.Call{Kind: api.CallDrop, Name: 7}},
		{Call: api.Call{Kind: api.CallDrop, Name: 7}},
		{Call: api.Call{Kind: api.CallCount}},
	}
	before := slices.Clone(l)
	names, told := All(l)
	if want := []api.Write{{At: 8, N: 1}}; !slices.Equal(names, want) {
		t.Errorf("names are %v, not %v", names, want)
	}
	want := []api.Reply{{}, {Err: api.ErrNone}, {}, {N: 3}, {N: 3}, {Err: api.ErrNone}, {N: 1}}
	if !slices.Equal(told, want) {
		t.Errorf("told is %v, not %v", told, want)
	}
	if !slices.Equal(l, before) {
		t.Errorf("All changed what it was handed: %v", l)
	}
}

// TestAllIsOneByOne holds All against Do, of every call that fewCalls has, in one long row.
func TestAllIsOneByOne(t *testing.T) {
	var l []api.Request
	for _, c := range slices.Repeat(fewCalls([]int{1, 2, 3, 4, 5, 6}, []int{most, 3}), 3) {
		l = append(l, api.Request{Client: len(l), Call: c})
	}
	var names []api.Write
	for i, r := range l {
		var want api.Reply
		names, want = Do(names, r.Call)
		got, told := All(l[:i+1])
		if len(told) != i+1 {
			t.Fatalf("%d requests: %d are told", i+1, len(told))
		}
		same(t, i, got, names, told[i], want)
	}
}

func TestOf(t *testing.T) {
	tests := []struct {
		name string
		c    []int
		want []api.Write
	}{
		{"new ones", cell.New(), nil},
		{"two", []int{2, 7, 5, 9, -3, 4, 4, 4, 4, 0, 0}, []api.Write{{At: 7, N: 5}, {At: 9, N: -3}}},
		{"none, though the others are not 0", []int{0, 7, 5, 9, -3, 4, 4, 4, 4, 1, 1}, nil},
		{"all", []int{5, 1, 10, 2, 20, 3, -most, 4, 40, last, 50}, full()},
	}
	for _, x := range tests {
		in := slices.Clone(x.c)
		got := Of(in)
		if !slices.Equal(got, x.want) {
			t.Errorf("%s: %v, not %v", x.name, got, x.want)
		}
		for i := range got {
			got[i] = api.Write{At: 77, N: 77}
		}
		if !slices.Equal(in, x.c) {
			t.Errorf("%s: changed to %v", x.name, in)
		}
	}
}

// TestOfWrongCells: B2 speaks of right cells only; of others nothing may panic.
func TestOfWrongCells(t *testing.T) {
	for _, c := range [][]int{nil, {}, {3}, {1, 2}, {math.MaxInt, 1, 2, 3}, {-1, 1, 2}, {math.MinInt}} {
		if l := Of(c); len(l) > len(c)/2 {
			t.Errorf("%v: %v", c, l)
		}
	}
}
