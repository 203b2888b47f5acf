package serve

import (
	"bytes"
	"math"
	"slices"
	"testing"

	"mendkernel/api"
	"mendkernel/cell"
	"mendkernel/model"
	"mendkernel/plan"
	"mendkernel/store"
	"mendkernel/wire"
)

var (
	put7   = api.Call{Kind: api.CallPut, Name: 7, N: 5}
	add7   = api.Call{Kind: api.CallAdd, Name: 7, N: 2}
	drop7  = api.Call{Kind: api.CallDrop, Name: 7}
	get7   = api.Call{Kind: api.CallGet, Name: 7}
	get9   = api.Call{Kind: api.CallGet, Name: 9}
	swap79 = api.Call{Kind: api.CallSwap, Name: 7, Other: 9}
)

func request(client, token int, c api.Call) api.Request {
	return api.Request{Client: client, Token: token, Call: c}
}

func asked(client, token int, c api.Call) []byte { return wire.Request(request(client, token, c)) }

func answer(client, token, n int) api.Answer {
	return api.Answer{Client: client, Token: token, Reply: api.Reply{N: n}}
}

// idle is a server that has nothing in hand but what came.
func idle(box ...[]byte) api.Server { return api.Server{Gen: 4, Box: box} }

// kept is a store in which 7 has 5, by client 2's call 3, behind client 0's call 0.
func kept() api.Store {
	return api.Store{
		Cells:   cell.Set(cell.New(), []api.Write{{At: 0, N: 1}, {At: 1, N: 7}, {At: 2, N: 5}}),
		Answers: []api.Answer{{Client: 0, Token: 0, Reply: api.Reply{Err: api.ErrNone}}, answer(2, 3, 0)},
		Past:    []api.Request{request(0, 0, get7), request(2, 3, put7)},
	}
}

// busy are a store and a server in the midst of a new name, 9, with one write done.
func busy() (api.Store, api.Server) {
	s := store.Write(kept(), api.Write{At: 3, N: 9})
	v := api.Server{
		Gen:  4,
		Box:  [][]byte{asked(0, 1, get7), []byte("zap")},
		Busy: true,
		Now:  request(1, 6, api.Call{Kind: api.CallPut, Name: 9, N: -1}),
		Plan: []api.Write{{At: 4, N: -1}, {At: 0, N: 2}},
	}
	return s, v
}

func sameStore(a, b api.Store) bool {
	return slices.Equal(a.Cells, b.Cells) && slices.Equal(a.Undo, b.Undo) &&
		slices.Equal(a.Answers, b.Answers) && slices.Equal(a.Past, b.Past)
}

func sameServer(a, b api.Server) bool {
	return a.Gen == b.Gen && slices.EqualFunc(a.Box, b.Box, bytes.Equal) && a.Busy == b.Busy &&
		a.Now == b.Now && slices.Equal(a.Plan, b.Plan) && a.Says == b.Says
}

func isStore(t *testing.T, what string, got, want api.Store) {
	t.Helper()
	if !sameStore(got, want) {
		t.Errorf("%s: the store is %v, not %v", what, got, want)
	}
}

func isServer(t *testing.T, what string, got, want api.Server) {
	t.Helper()
	if !sameServer(got, want) {
		t.Errorf("%s: the server is %v, not %v", what, got, want)
	}
}

func isSaid(t *testing.T, what string, b []byte, err api.Errno, want []byte, wantErr api.Errno) {
	t.Helper()
	if !bytes.Equal(b, want) || err != wantErr {
		t.Errorf("%s: %v and %d, not %v and %d", what, b, err, want, wantErr)
	}
}

func TestOwn(t *testing.T) {
	_, v := busy()
	said := v
	said.Says = api.Reply{Err: api.ErrFull}
	for _, x := range []api.Server{{}, idle(), idle(nil, []byte{}, []byte("q")), v, said, idle(slices.Repeat([][]byte{{1}}, 9)...)} {
		isServer(t, "a copy", Own(x), x)
	}
}

func TestCome(t *testing.T) {
	_, v := busy()
	for _, s := range []api.Server{{}, idle(), v} {
		s.Box = nil
		for n := range api.MaxBox + 3 {
			b := asked(n%api.MaxClients, n, put7)
			got, err := Come(s, b)
			want, wantErr := s, api.OK
			if n < api.MaxBox {
				want.Box = append(slices.Clone(s.Box), b)
			} else {
				wantErr = api.ErrFull
			}
			isServer(t, "bytes came", got, want)
			if err != wantErr {
				t.Errorf("bytes %d: %d, not %d", n, err, wantErr)
			}
			s = got
		}
	}
}

// TestAnyBytesCome: a server looks at what came when it goes on, not when it comes.
func TestAnyBytesCome(t *testing.T) {
	for _, b := range [][]byte{nil, {}, {0}, []byte("zap"), bytes.Repeat([]byte{'q'}, 3000), wire.Answer(answer(0, 0, 0))} {
		got, err := Come(idle([]byte("a")), b)
		isServer(t, "bytes came", got, idle([]byte("a"), b))
		if err != api.OK {
			t.Errorf("%v: %d", b, err)
		}
	}
	more := idle(slices.Repeat([][]byte{{1}}, api.MaxBox+2)...)
	got, err := Come(more, nil)
	isServer(t, "more than there is room for", got, more)
	if err != api.ErrFull {
		t.Errorf("more than there is room for: %d", err)
	}
}

func TestGoWithoutWork(t *testing.T) {
	for _, v := range []api.Server{{}, idle(), {Gen: 4, Box: [][]byte{}}} {
		for _, s := range []api.Store{store.New(), kept()} {
			x, y, b, err := Go(s, v)
			isStore(t, "nothing came", x, s)
			isServer(t, "nothing came", y, v)
			isSaid(t, "nothing came", b, err, nil, api.ErrWait)
		}
	}
}

// TestGoBegins: what was not done yet is begun, and nothing is written ahead of the next step.
func TestGoBegins(t *testing.T) {
	tests := []struct {
		name string
		r    api.Request
		plan []api.Write
		says api.Reply
	}{
		{"a client that was never answered", request(1, 0, add7), []api.Write{{At: 2, N: 7}}, api.Reply{N: 7}},
		{"its last call", request(1, 7, add7), []api.Write{{At: 2, N: 7}}, api.Reply{N: 7}},
		{"the next call", request(0, 1, get7), nil, api.Reply{N: 5}},
		{"a later call", request(2, 7, drop7), []api.Write{{At: 0, N: 0}}, api.Reply{N: 5}},
		{"the same call again, as another one", request(2, 4, put7), []api.Write{{At: 2, N: 5}}, api.Reply{N: 5}},
		{"a new name", request(0, 1, api.Call{Kind: api.CallPut, Name: 9, N: 1}), []api.Write{{At: 3, N: 9}, {At: 4, N: 1}, {At: 0, N: 2}}, api.Reply{}},
		{"an error", request(0, 1, get9), nil, api.Reply{Err: api.ErrNone}},
		{"another error", request(0, 1, swap79), nil, api.Reply{Err: api.ErrNone}},
	}
	for _, x := range tests {
		box := [][]byte{wire.Request(x.r), []byte("zap"), wire.Request(x.r)}
		s, v, b, err := Go(kept(), idle(box...))
		isStore(t, x.name, s, kept())
		isServer(t, x.name, v, api.Server{Gen: 4, Box: box[1:], Busy: true, Now: x.r, Plan: x.plan, Says: x.says})
		isSaid(t, x.name, b, err, nil, api.OK)
	}
}

// TestGoHasDoneIt: what was done is not done again: the last answer is said again, an earlier one never.
func TestGoHasDoneIt(t *testing.T) {
	tests := []struct {
		name string
		b    []byte
		said []byte
	}{
		{"the last one", asked(2, 3, put7), wire.Answer(answer(2, 3, 0))},
		{"the last one's token, with another call", asked(2, 3, get7), wire.Answer(answer(2, 3, 0))},
		{"an error", asked(0, 0, get7), []byte{'a', 0, 0, byte(api.ErrNone), 0, 0, 0, 0}},
		{"one ahead of it", asked(2, 2, put7), nil},
		{"the first one", asked(2, 0, put7), nil},
	}
	for _, x := range tests {
		for _, rest := range [][][]byte{nil, {[]byte("zap")}, {asked(0, 1, get7), asked(1, 0, get7)}} {
			s, v, b, err := Go(kept(), idle(append([][]byte{x.b}, rest...)...))
			isStore(t, x.name, s, kept())
			isServer(t, x.name, v, idle(rest...))
			isSaid(t, x.name, b, err, x.said, api.OK)
		}
	}
}

// TestGoAtNoRequest: whatever else came goes, and that is all.
func TestGoAtNoRequest(t *testing.T) {
	right := asked(1, 0, put7)
	wrong := [][]byte{nil, {}, {'q'}, []byte("zap"), right[:9], append(slices.Clone(right), 0), wire.Answer(answer(2, 3, 0))}
	for at, n := range map[int]byte{0: 'a', 1: api.MaxClients, 2: api.MaxCalls, 3: 7, 4: 0, 6: 0x7f} {
		b := slices.Clone(right)
		b[at] = n
		wrong = append(wrong, b)
	}
	for _, first := range wrong {
		s, v, b, err := Go(kept(), idle(first, right))
		isStore(t, "no request", s, kept())
		isServer(t, "no request", v, idle(right))
		isSaid(t, "no request", b, err, nil, api.OK)
	}
}

func TestGoWrites(t *testing.T) {
	s, v := busy()
	for len(v.Plan) > 0 {
		want := Own(v)
		want.Plan = want.Plan[1:]
		wantStore := store.Write(s, v.Plan[0])
		x, y, b, err := Go(s, v)
		isStore(t, "a write", x, wantStore)
		isServer(t, "a write", y, want)
		isSaid(t, "a write", b, err, nil, api.OK)
		s, v = wantStore, want
	}
	if want := []int{2, 7, 5, 9, -1, 0, 0, 0, 0, 0, 0}; !slices.Equal(s.Cells, want) {
		t.Errorf("all is written: %v, not %v", s.Cells, want)
	}
}

func TestGoIsDone(t *testing.T) {
	tests := []struct {
		says api.Reply
		said []byte
	}{
		{api.Reply{}, []byte{'a', 1, 6, 0, 0, 0, 0, 0}},
		{api.Reply{N: -2}, []byte{'a', 1, 6, 0, 255, 255, 255, 254}},
		{api.Reply{N: api.MaxNum}, []byte{'a', 1, 6, 0, 64, 0, 0, 0}},
		{api.Reply{Err: api.ErrFull}, []byte{'a', 1, 6, 9, 0, 0, 0, 0}},
	}
	for _, x := range tests {
		for _, box := range [][][]byte{nil, {[]byte("zap")}, {asked(1, 6, put7), nil, asked(0, 1, get7)}} {
			s, v := busy()
			v.Plan, v.Says, v.Box = nil, x.says, box
			got, y, b, err := Go(s, v)
			isStore(t, "done", got, store.Commit(s, v.Now, x.says))
			isServer(t, "done", y, idle(box...))
			isSaid(t, "done", b, err, x.said, api.OK)
		}
	}
}

// Behind the first step a server is busy, with three writes left; four steps later it has said its answer.
func TestANewName(t *testing.T) {
	v, _ := Come(api.Server{}, asked(0, 0, put7))
	s, v, b, err := Go(store.New(), v)
	isSaid(t, "the first step", b, err, nil, api.OK)
	isServer(t, "the first step", v, api.Server{Busy: true, Now: request(0, 0, put7), Plan: []api.Write{{At: 1, N: 7}, {At: 2, N: 5}, {At: 0, N: 1}}})
	for left := 2; left >= 0; left-- {
		s, v, b, err = Go(s, v)
		isSaid(t, "a write", b, err, nil, api.OK)
		if !v.Busy || len(v.Plan) != left || len(s.Undo) != 3-left {
			t.Errorf("%v and %v, with %d left", s, v, left)
		}
	}
	s, v, b, err = Go(s, v)
	isSaid(t, "the last step", b, err, wire.Answer(answer(0, 0, 0)), api.OK)
	isServer(t, "the last step", v, api.Server{})
	isStore(t, "the last step", s, api.Store{Cells: []int{1, 7, 5, 0, 0, 0, 0, 0, 0, 0, 0}, Answers: []api.Answer{answer(0, 0, 0)}, Past: []api.Request{request(0, 0, put7)}})
}

// manyCalls has every kind, on names of which some come to be there.
func manyCalls() []api.Call {
	out := []api.Call{{Kind: api.CallCount}}
	for name := 1; name <= api.MaxEntries+2; name++ {
		out = append(out,
			api.Call{Kind: api.CallPut, Name: name, N: 10 * name},
			api.Call{Kind: api.CallPut, Name: api.MaxEntries + 3 - name, N: -name},
			api.Call{Kind: api.CallGet, Name: name},
			api.Call{Kind: api.CallDrop, Name: name},
			api.Call{Kind: api.CallAdd, Name: name, N: -3},
			api.Call{Kind: api.CallSwap, Name: name, Other: api.MaxEntries + 3 - name},
		)
	}
	return out
}

// serveAll goes on until there is nothing to do, and answers what was said.
func serveAll(t *testing.T, s api.Store, v api.Server) (api.Store, api.Server, [][]byte) {
	var said [][]byte
	for range 1000 {
		x, y, b, err := Go(s, v)
		if err != api.OK {
			return x, y, said
		}
		if len(b) > 0 {
			said = append(said, b)
		}
		s, v = x, y
	}
	t.Fatal("it does not end")
	return s, v, said
}

// TestOneRequestOneAnswer: whatever is asked, however often it comes, it is done once, and does what the model says.
func TestOneRequestOneAnswer(t *testing.T) {
	calls := manyCalls()
	for turn := range 60 {
		s, v := store.New(), api.Server{Gen: turn}
		for i := range api.MaxClients * api.MaxCalls {
			r := request(i%api.MaxClients, i/api.MaxClients, calls[(turn*turn+i*(turn+7))%len(calls)])
			_, want := plan.Make(s.Cells, r.Call)
			for _, b := range [][]byte{wire.Request(r), wire.Request(r), []byte("zap")} {
				v, _ = Come(v, b)
			}
			var said [][]byte
			s, v, said = serveAll(t, s, v)
			bytesOf := wire.Answer(api.Answer{Client: r.Client, Token: r.Token, Reply: want})
			if len(said) != 2 || !bytes.Equal(said[0], bytesOf) || !bytes.Equal(said[1], bytesOf) {
				t.Fatalf("%v: %v are said, not %v", r, said, bytesOf)
			}
			isServer(t, "idle again", v, api.Server{Gen: turn})
			if len(s.Past) != i+1 || s.Past[i] != r || len(s.Undo) != 0 {
				t.Fatalf("behind %v: %v", r, s)
			}
			names, told := model.All(s.Past)
			if !slices.Equal(model.Of(s.Cells), names) || told[i] != want || cell.Wrong(s.Cells) != api.OK {
				t.Fatalf("behind %v: %v, not %v", r, s.Cells, names)
			}
		}
	}
}

// TestBrokenOff: wherever a server is lost, the store is Back at what was done, and another server does the rest.
func TestBrokenOff(t *testing.T) {
	for _, call := range append(manyCalls(), drop7, swap79, api.Call{Kind: api.CallPut, Name: 9, N: 4}) {
		b := asked(1, 2, call)
		wantStore, _, wantSaid := serveAll(t, kept(), idle(b))
		for steps := range 6 {
			s, v := kept(), idle(b)
			for range steps {
				s, v, _, _ = Go(s, v)
			}
			s, v, said := serveAll(t, store.Back(s), api.Server{Gen: 5, Box: [][]byte{b}})
			isStore(t, "lost, and done", s, wantStore)
			isServer(t, "lost, and done", v, api.Server{Gen: 5})
			if !slices.EqualFunc(said, wantSaid, bytes.Equal) {
				t.Errorf("%v, lost behind %d: %v, not %v", call, steps, said, wantSaid)
			}
		}
	}
}

// all is a store and a server, and what a call answers beside them.
type all struct {
	s api.Store
	v api.Server
	b []byte
}

func copied(x all) all { return all{store.Own(x.s), Own(x.v), slices.Clone(x.b)} }

func isAll(t *testing.T, what string, got, want all) {
	t.Helper()
	isStore(t, what, got.s, want.s)
	isServer(t, what, got.v, want.v)
	if !bytes.Equal(got.b, want.b) {
		t.Errorf("%s: %v, not %v", what, got.b, want.b)
	}
}

// wipe changes all entries of all lists, and those behind them.
func wipe(x all) {
	for _, b := range x.v.Box {
		clear(b[:cap(b)])
	}
	clear(x.v.Box[:cap(x.v.Box)])
	clear(x.v.Plan[:cap(x.v.Plan)])
	clear(x.s.Cells[:cap(x.s.Cells)])
	clear(x.s.Undo[:cap(x.s.Undo)])
	clear(x.s.Answers[:cap(x.s.Answers)])
	clear(x.s.Past[:cap(x.s.Past)])
	clear(x.b[:cap(x.b)])
}

// givens are what is handed in, of every kind of step; b is what comes.
func givens() map[string]all {
	s, v := busy()
	written := v
	written.Plan = nil
	full := v
	full.Box = append(slices.Clone(v.Box), asked(1, 1, get9))
	b := asked(2, 5, swap79)
	return map[string]all{
		"nothing came": {kept(), idle(), b},
		"begins":       {kept(), idle(asked(1, 0, put7), []byte("zap")), b},
		"said again":   {kept(), idle(asked(2, 3, put7), []byte("zap")), b},
		"no request":   {kept(), idle([]byte("zap"), []byte("q")), b},
		"writes":       {s, v, b},
		"is done":      {s, written, b},
		"full":         {s, full, b},
		"none":         {},
	}
}

func deeds() map[string]func(all) all {
	return map[string]func(all) all{
		"Own": func(x all) all { return all{v: Own(x.v)} },
		"Come": func(x all) all {
			v, _ := Come(x.v, x.b)
			return all{v: v}
		},
		"Go": func(x all) all {
			s, v, b, _ := Go(x.s, x.v)
			return all{s, v, b}
		},
	}
}

// roomy answers the list, whole, with room behind it; that room has entries that must neither change nor be looked at.
func roomy[T any](l []T, fill T) []T { return append(slices.Clone(l), slices.Repeat([]T{fill}, 9)...) }

func withRoom(x all) all {
	for i, b := range x.v.Box {
		x.v.Box[i] = roomy(b, 'q')
	}
	x.v.Box = append(x.v.Box, asked(1, 1, put7), asked(1, 1, put7), asked(1, 1, put7))
	x.v.Plan = roomy(x.v.Plan, api.Write{At: 6, N: 6})
	x.s.Cells = roomy(x.s.Cells, 4)
	x.s.Undo = roomy(x.s.Undo, api.Write{At: 1, N: 1})
	x.s.Answers = roomy(x.s.Answers, answer(1, 1, 1))
	x.s.Past = roomy(x.s.Past, request(1, 1, get7))
	x.b = roomy(x.b, 'q')
	return x
}

// cut answers those lists of x without the room that withRoom gave them.
func cut(x, lengths all) all {
	out := x
	out.v.Box = slices.Clone(x.v.Box)
	for i, b := range lengths.v.Box {
		out.v.Box[i] = out.v.Box[i][:len(b)]
	}
	out.v.Box = out.v.Box[:len(lengths.v.Box)]
	out.v.Plan = x.v.Plan[:len(lengths.v.Plan)]
	out.s.Cells = x.s.Cells[:len(lengths.s.Cells)]
	out.s.Undo = x.s.Undo[:len(lengths.s.Undo)]
	out.s.Answers = x.s.Answers[:len(lengths.s.Answers)]
	out.s.Past = x.s.Past[:len(lengths.s.Past)]
	out.b = x.b[:len(lengths.b)]
	return out
}

// TestOnlyReads: what is handed in stays, with its spare room, and nothing of it is kept.
func TestOnlyReads(t *testing.T) {
	for kind, given := range givens() {
		for name, do := range deeds() {
			what := name + ", " + kind
			want := do(copied(given))
			whole := withRoom(copied(given))
			before := copied(whole)
			handed := cut(whole, given)
			boxRoom := slices.Clone(handed.v.Box[:cap(handed.v.Box)])
			got := do(handed)
			isAll(t, what+" with room behind", got, want)
			isAll(t, what+": what was handed in", whole, before)
			if !slices.EqualFunc(handed.v.Box[:cap(handed.v.Box)], boxRoom, bytes.Equal) {
				t.Errorf("%s: the room behind Box is changed", what)
			}
			wipe(whole)
			wipe(handed)
			isAll(t, what+", when what was handed in is changed", got, want)
		}
	}
}

// TestAnswersAreTheCallers: each list that is answered may be changed, with the room behind it, and changes nothing else.
func TestAnswersAreTheCallers(t *testing.T) {
	for kind, given := range givens() {
		for name, do := range deeds() {
			what := name + ", " + kind
			want := do(copied(given))
			handed := copied(given)
			wipe(do(handed))
			isAll(t, what+": what was handed in", handed, given)
			isAll(t, what+" again", do(handed), want)
			apart(t, what, do(handed), want)
		}
	}
}

// apart: bytes of Box, and those that are said, have room of their own.
func apart(t *testing.T, what string, got, want all) {
	t.Helper()
	lists := append(slices.Clone(got.v.Box), got.b)
	wants := append(slices.Clone(want.v.Box), want.b)
	for i, b := range lists {
		if !bytes.Equal(b, wants[i]) {
			t.Errorf("%s: list %d is %v, not %v", what, i, b, wants[i])
		}
		clear(b[:cap(b)])
	}
}

// TestNilAndEmpty: lists without entries are the same, whichever they are.
func TestNilAndEmpty(t *testing.T) {
	none := api.Server{Busy: true, Now: request(1, 0, get7), Says: api.Reply{N: 5}}
	empty := none
	empty.Box, empty.Plan = [][]byte{}, []api.Write{}
	for name, do := range deeds() {
		s := api.Store{Cells: cell.New(), Undo: []api.Write{}, Answers: []api.Answer{}, Past: []api.Request{}}
		isAll(t, name, do(all{s: s, v: empty, b: []byte{}}), do(all{s: store.New(), v: none}))
		none.Busy, empty.Busy = false, false
		isAll(t, name+", idle", do(all{s: s, v: empty, b: []byte{}}), do(all{s: store.New(), v: none}))
		isAll(t, name+", no bytes", do(all{s: s, v: idle([]byte{})}), do(all{s: store.New(), v: idle(nil)}))
		none.Busy, empty.Busy = true, true
	}
}

// TestWrongServers: G1 speaks of stores and servers of machines only; of others nothing may panic.
func TestWrongServers(t *testing.T) {
	edges := []int{math.MinInt, -1, 0, 1, 10, 11, math.MaxInt}
	for n := range 14 {
		for _, x := range edges {
			s := api.Store{
				Cells:   slices.Repeat([]int{x}, n),
				Undo:    []api.Write{{At: x, N: x}},
				Answers: []api.Answer{answer(x, x, x), answer(x, 1, 1)},
				Past:    []api.Request{request(x, x, api.Call{Kind: x, Name: x, Other: x, N: x})},
			}
			for _, call := range manyCalls() {
				v := api.Server{Gen: x, Box: [][]byte{asked(0, 0, call), asked(1, 1, call), nil}, Now: request(x, x, call), Plan: []api.Write{{At: x, N: x}}, Says: api.Reply{Err: api.Errno(x), N: x}}
				Go(s, v)
				v.Busy = true
				Go(s, v)
				v.Plan = nil
				Go(s, v)
			}
		}
	}
}
