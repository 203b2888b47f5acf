package store

import (
	"math"
	"slices"
	"testing"

	"mendkernel/api"
	"mendkernel/cell"
	"mendkernel/model"
	"mendkernel/plan"
)

// with answers new cells, but for those writes.
func with(l ...api.Write) []int { return cell.Set(cell.New(), l) }

// request is the token-th one of a client, of a call that any cells allow.
func request(client, token int) api.Request {
	return api.Request{Client: client, Token: token, Call: api.Call{Kind: api.CallCount}}
}

func answer(client, token, n int) api.Answer {
	return api.Answer{Client: client, Token: token, Reply: api.Reply{N: n}}
}

// busy is a store in the midst of a call, with requests that were done: two of client 2, and one of client 0.
func busy() api.Store {
	return api.Store{
		Cells:   []int{1, 7, 6, 9, 3, 0, 0, 0, 0, 0, 0},
		Undo:    []api.Write{{At: 2, N: 4}, {At: 4, N: 0}, {At: 2, N: 5}, {At: 3, N: 8}},
		Answers: []api.Answer{answer(2, 1, 5), answer(0, 0, 1)},
		Past:    []api.Request{request(2, 0), request(0, 0), request(2, 1)},
	}
}

func same(a, b api.Store) bool {
	return slices.Equal(a.Cells, b.Cells) && slices.Equal(a.Undo, b.Undo) &&
		slices.Equal(a.Answers, b.Answers) && slices.Equal(a.Past, b.Past)
}

func is(t *testing.T, what string, got, want api.Store) {
	t.Helper()
	if !same(got, want) {
		t.Errorf("%s: %v, not %v", what, got, want)
	}
}

func TestNew(t *testing.T) {
	want := api.Store{Cells: make([]int, 11)}
	s := New()
	is(t, "a new one", s, want)
	s.Cells[0], s.Cells[10] = 9, 9
	is(t, "another new one", New(), want)
}

func TestOwn(t *testing.T) {
	is(t, "a new one's copy", Own(New()), New())
	is(t, "a busy one's copy", Own(busy()), busy())
	is(t, "a copy of nothing", Own(api.Store{}), api.Store{})
}

func TestWrite(t *testing.T) {
	tests := []struct {
		name string
		l    []api.Write
		want api.Store
	}{
		{"nothing", nil, New()},
		{"one write", []api.Write{{At: 1, N: 7}}, api.Store{Cells: with(api.Write{At: 1, N: 7}), Undo: []api.Write{{At: 1}}}},
		{"what it had comes first", []api.Write{{At: 1, N: 7}, {At: 2, N: 5}}, api.Store{Cells: with(api.Write{At: 1, N: 7}, api.Write{At: 2, N: 5}), Undo: []api.Write{{At: 2}, {At: 1}}}},
		{"one cell twice", []api.Write{{At: 3, N: 7}, {At: 3, N: 8}}, api.Store{Cells: with(api.Write{At: 3, N: 8}), Undo: []api.Write{{At: 3, N: 7}, {At: 3}}}},
		{"what it has already", []api.Write{{At: 3, N: 0}}, api.Store{Cells: with(), Undo: []api.Write{{At: 3}}}},
		{"the first cell, and the last", []api.Write{{At: 0, N: 1}, {At: 10, N: -1}}, api.Store{Cells: with(api.Write{At: 0, N: 1}, api.Write{At: 10, N: -1}), Undo: []api.Write{{At: 10}, {At: 0}}}},
		{"any number", []api.Write{{At: 4, N: math.MinInt}, {At: 4, N: math.MaxInt}}, api.Store{Cells: with(api.Write{At: 4, N: math.MaxInt}), Undo: []api.Write{{At: 4, N: math.MinInt}, {At: 4}}}},
		{"cells that there are not", []api.Write{{At: -1, N: 3}, {At: 11, N: 3}, {At: math.MinInt, N: 3}, {At: math.MaxInt, N: 3}}, New()},
		{"one that there is among them", []api.Write{{At: 11, N: 3}, {At: 6, N: 2}, {At: -1, N: 3}}, api.Store{Cells: with(api.Write{At: 6, N: 2}), Undo: []api.Write{{At: 6}}}},
	}
	for _, x := range tests {
		s := New()
		for _, w := range x.l {
			s = Write(s, w)
		}
		is(t, x.name, s, x.want)
	}
}

// TestWriteToABusyStore: a write changes cells and Undo only, and of a cell that there is not nothing at all.
func TestWriteToABusyStore(t *testing.T) {
	want := busy()
	want.Cells[2] = 1
	want.Undo = []api.Write{{At: 2, N: 6}, {At: 2, N: 4}, {At: 4, N: 0}, {At: 2, N: 5}, {At: 3, N: 8}}
	is(t, "a write", Write(busy(), api.Write{At: 2, N: 1}), want)
	for _, at := range []int{math.MinInt, -1, 11, 12, math.MaxInt} {
		is(t, "a write to no cell", Write(busy(), api.Write{At: at, N: 1}), busy())
	}
}

func TestLast(t *testing.T) {
	clients := []int{math.MinInt, -1, 0, 1, 2, 3, math.MaxInt}
	for _, client := range clients {
		if a, ok := Last(New(), client); a != (api.Answer{}) || ok {
			t.Errorf("client %d of a new store: %v, %v", client, a, ok)
		}
	}
	want := map[int]api.Answer{2: answer(2, 1, 5), 0: answer(0, 0, 1)}
	for _, client := range clients {
		_, there := want[client]
		if a, ok := Last(busy(), client); a != want[client] || ok != there {
			t.Errorf("client %d: %v, %v, not %v, %v", client, a, ok, want[client], there)
		}
	}
	failed := api.Answer{Client: 1, Token: 4, Reply: api.Reply{Err: api.ErrNone}}
	if a, ok := Last(api.Store{Answers: []api.Answer{failed}}, 1); a != failed || !ok {
		t.Errorf("an error: %v, %v", a, ok)
	}
	if a, ok := Last(api.Store{Answers: []api.Answer{{}}}, 0); a != (api.Answer{}) || !ok {
		t.Errorf("an answer of noughts: %v, %v", a, ok)
	}
}

func TestCommit(t *testing.T) {
	past := busy().Past
	tests := []struct {
		name    string
		r       api.Request
		says    api.Reply
		answers []api.Answer
	}{
		{"a client of whom there is none", request(1, 0), api.Reply{N: 9}, []api.Answer{answer(2, 1, 5), answer(0, 0, 1), answer(1, 0, 9)}},
		{"the first one", request(2, 2), api.Reply{N: -9}, []api.Answer{answer(2, 2, -9), answer(0, 0, 1)}},
		{"the last one", request(0, 1), api.Reply{}, []api.Answer{answer(2, 1, 5), answer(0, 1, 0)}},
		{"an error", request(0, 1), api.Reply{Err: api.ErrFull}, []api.Answer{answer(2, 1, 5), {Token: 1, Reply: api.Reply{Err: api.ErrFull}}}},
		{"a token that was there", request(2, 1), api.Reply{N: 4}, []api.Answer{answer(2, 1, 4), answer(0, 0, 1)}},
		{"an earlier token", request(2, 0), api.Reply{N: 4}, []api.Answer{answer(2, 0, 4), answer(0, 0, 1)}},
		{"a call that is told whole", api.Request{Client: 1, Token: 7, Call: api.Call{Kind: api.CallSwap, Name: 7, Other: 255}}, api.Reply{}, []api.Answer{answer(2, 1, 5), answer(0, 0, 1), answer(1, 7, 0)}},
	}
	for _, x := range tests {
		want := api.Store{Cells: busy().Cells, Answers: x.answers, Past: append(slices.Clone(past), x.r)}
		got := Commit(busy(), x.r, x.says)
		is(t, x.name, got, want)
		is(t, x.name+", and back", Back(got), want)
		if a, ok := Last(got, x.r.Client); a != (api.Answer{Client: x.r.Client, Token: x.r.Token, Reply: x.says}) || !ok {
			t.Errorf("%s: the last answer is %v, %v", x.name, a, ok)
		}
	}
	first := api.Store{Cells: cell.New(), Answers: []api.Answer{answer(0, 0, 0)}, Past: []api.Request{request(0, 0)}}
	is(t, "the first request of all", Commit(New(), request(0, 0), api.Reply{}), first)
}

// TestToEachTheirOwn: whoever is answered, the others keep their answers, and each has one at most.
func TestToEachTheirOwn(t *testing.T) {
	s := New()
	want := map[int]api.Answer{}
	for i := range 60 {
		client, token := i*i%7%api.MaxClients, i
		s = Commit(s, request(client, token), api.Reply{N: 100 + i})
		want[client] = answer(client, token, 100+i)
		for n := range api.MaxClients + 1 {
			_, there := want[n]
			if a, ok := Last(s, n); a != want[n] || ok != there {
				t.Fatalf("behind %d: client %d has %v, %v, not %v", i, n, a, ok, want[n])
			}
		}
		if len(s.Answers) != len(want) || len(s.Past) != i+1 || s.Past[i] != request(client, token) {
			t.Fatalf("behind %d: %v", i, s)
		}
	}
	if len(want) != api.MaxClients {
		t.Errorf("%d clients were answered", len(want))
	}
}

func TestBack(t *testing.T) {
	want := busy()
	want.Cells = []int{1, 7, 5, 8, 0, 0, 0, 0, 0, 0, 0}
	want.Undo = nil
	is(t, "a busy one", Back(busy()), want)
	is(t, "again", Back(Back(busy())), want)
	is(t, "a new one", Back(New()), New())
	is(t, "none", Back(api.Store{}), api.Store{})
}

// Two writes to one cell, taken back: it is 0 again.
func TestTwoWritesToOneCell(t *testing.T) {
	s := Write(Write(New(), api.Write{At: 2, N: 5}), api.Write{At: 2, N: 6})
	is(t, "taken back", Back(s), New())
}

// everyList hands on each list of n writes to cells around the first ones and the last ones.
func everyList(n int, do func([]api.Write)) {
	var grow func(l []api.Write)
	grow = func(l []api.Write) {
		if len(l) == n {
			do(l)
			return
		}
		for _, at := range []int{-1, 0, 1, 10, 11} {
			grow(append(slices.Clone(l), api.Write{At: at, N: 20 + len(l)}))
		}
	}
	grow(nil)
}

// TestTakenBackItIsAsItWas: whatever was written behind the last Commit goes, and what was written ahead of it stays.
func TestTakenBackItIsAsItWas(t *testing.T) {
	for n := range 5 {
		everyList(n, func(l []api.Write) {
			done := Commit(Write(New(), api.Write{At: 1, N: 4}), request(1, 0), api.Reply{N: 3})
			s := done
			for _, w := range l {
				s = Write(s, w)
			}
			if want := cell.Set(done.Cells, l); !slices.Equal(s.Cells, want) || !slices.Equal(s.Undo, cell.Undo(done.Cells, l)) {
				t.Errorf("%v: %v", l, s)
			}
			is(t, "taken back", Back(s), done)
			kept := Commit(s, request(0, 0), api.Reply{})
			is(t, "done, and taken back", Back(kept), kept)
			if !slices.Equal(kept.Cells, s.Cells) {
				t.Errorf("%v: done they are %v, not %v", l, kept.Cells, s.Cells)
			}
		})
	}
}

// manyCalls has every kind, on names of which some come to be there.
func manyCalls() []api.Call {
	out := []api.Call{{Kind: api.CallCount}}
	for name := 1; name <= api.MaxEntries+2; name++ {
		out = append(out,
			api.Call{Kind: api.CallPut, Name: name, N: 10 * name},
			api.Call{Kind: api.CallGet, Name: name},
			api.Call{Kind: api.CallDrop, Name: name},
			api.Call{Kind: api.CallAdd, Name: name, N: -3},
			api.Call{Kind: api.CallSwap, Name: name, Other: api.MaxEntries + 3 - name},
		)
	}
	return out
}

// TestAllOfItOrNothing: wherever a plan is broken off, Back is the store ahead of it; done, names have what the model says.
func TestAllOfItOrNothing(t *testing.T) {
	s := New()
	calls := manyCalls()
	for i := range 4 * len(calls) {
		call := calls[i*i%97%len(calls)]
		l, says := plan.Make(s.Cells, call)
		ahead := s
		for _, w := range l {
			is(t, "broken off", Back(s), ahead)
			s = Write(s, w)
		}
		is(t, "broken off ahead of Commit", Back(s), ahead)
		s = Commit(s, api.Request{Client: i % api.MaxClients, Token: i, Call: call}, says)
		is(t, "done", Back(s), s)
		if e := cell.Wrong(s.Cells); e != api.OK {
			t.Fatalf("behind %v: %v are wrong: %d", call, s.Cells, e)
		}
		names, told := model.All(s.Past)
		if !slices.Equal(model.Of(s.Cells), names) || told[i] != says {
			t.Fatalf("behind %v: %v and %v, not %v and %v", call, model.Of(s.Cells), says, names, told[i])
		}
	}
}

// deeds are all calls that answer a store, of one and the same.
func deeds() map[string]func(api.Store) api.Store {
	return map[string]func(api.Store) api.Store{
		"Own":                   Own,
		"Write":                 func(s api.Store) api.Store { return Write(s, api.Write{At: 2, N: 1}) },
		"Write to no cell":      func(s api.Store) api.Store { return Write(s, api.Write{At: 11, N: 1}) },
		"Commit":                func(s api.Store) api.Store { return Commit(s, request(2, 2), api.Reply{N: 7}) },
		"Commit of another one": func(s api.Store) api.Store { return Commit(s, request(1, 0), api.Reply{N: 7}) },
		"Back":                  Back,
	}
}

// roomy answers the list, whole, with room behind it; that room has entries that must neither change nor be looked at.
func roomy[T any](l []T, fill T) []T { return append(slices.Clone(l), slices.Repeat([]T{fill}, 9)...) }

// TestOnlyReads: what is handed in stays, with its spare room, and nothing of it is kept.
func TestOnlyReads(t *testing.T) {
	for name, do := range deeds() {
		b := busy()
		all := api.Store{Cells: roomy(b.Cells, 4), Undo: roomy(b.Undo, api.Write{At: 1, N: 1}), Answers: roomy(b.Answers, answer(1, 1, 1)), Past: roomy(b.Past, request(1, 1))}
		kept := api.Store{Cells: slices.Clone(all.Cells), Undo: slices.Clone(all.Undo), Answers: slices.Clone(all.Answers), Past: slices.Clone(all.Past)}
		given := api.Store{Cells: all.Cells[:len(b.Cells)], Undo: all.Undo[:len(b.Undo)], Answers: all.Answers[:len(b.Answers)], Past: all.Past[:len(b.Past)]}
		want := do(busy())
		got := do(given)
		is(t, name+" with room behind", got, want)
		is(t, name+": what was handed in", all, kept)
		wipe(all)
		is(t, name+", when what was handed in is changed", got, want)
	}
	given := busy()
	a, _ := Last(given, 2)
	is(t, "Last: what was handed in", given, busy())
	wipe(given)
	if a != answer(2, 1, 5) {
		t.Errorf("Last, when what was handed in is changed: %v", a)
	}
	all := roomy(busy().Answers, answer(1, 1, 1))
	if a, ok := Last(api.Store{Answers: all[:2]}, 1); a != (api.Answer{}) || ok {
		t.Errorf("Last looks behind the answers: %v", a)
	}
}

// TestAnswersAreTheCallers: changed, with the room behind them, they change nothing else.
func TestAnswersAreTheCallers(t *testing.T) {
	for name, do := range deeds() {
		given := busy()
		want := do(busy())
		got := do(given)
		wipe(got)
		is(t, name+": what was handed in", given, busy())
		is(t, name+" again", do(given), want)
	}
}

// wipe changes all entries of a store's lists, and those behind them.
func wipe(s api.Store) {
	clear(s.Cells[:cap(s.Cells)])
	clear(s.Undo[:cap(s.Undo)])
	clear(s.Answers[:cap(s.Answers)])
	clear(s.Past[:cap(s.Past)])
}

// TestNilAndEmpty: lists without entries are the same, whichever they are.
func TestNilAndEmpty(t *testing.T) {
	empty := api.Store{Cells: []int{}, Undo: []api.Write{}, Answers: []api.Answer{}, Past: []api.Request{}}
	for name, do := range deeds() {
		is(t, name, do(empty), do(api.Store{}))
	}
	if a, ok := Last(empty, 0); a != (api.Answer{}) || ok {
		t.Errorf("Last: %v, %v", a, ok)
	}
}

// TestWrongStores: F1 speaks of stores with MaxCells cells only, and Undo of those; of others nothing may panic.
func TestWrongStores(t *testing.T) {
	edges := []int{math.MinInt, -1, 0, 1, 10, 11, math.MaxInt}
	for n := range 14 {
		for _, x := range edges {
			s := api.Store{
				Cells:   slices.Repeat([]int{x}, n),
				Undo:    []api.Write{{At: x, N: x}, {At: -x, N: x}},
				Answers: []api.Answer{answer(x, x, x), answer(x, 1, 1)},
				Past:    []api.Request{request(x, x)},
			}
			for _, do := range deeds() {
				do(s)
			}
			for _, y := range edges {
				Last(s, y)
				Write(s, api.Write{At: y, N: x})
				Commit(s, request(y, x), api.Reply{Err: api.Errno(x), N: y})
			}
		}
	}
}
