package look

import (
	"fmt"
	"math"
	"reflect"
	"slices"
	"strings"
	"testing"

	"mendkernel/api"
	"mendkernel/guard"
	"mendkernel/machine"
	"mendkernel/model"
)

var (
	put7   = api.Call{Kind: api.CallPut, Name: 7, N: 5}
	put9   = api.Call{Kind: api.CallPut, Name: 9, N: 1}
	get7   = api.Call{Kind: api.CallGet, Name: 7}
	get9   = api.Call{Kind: api.CallGet, Name: 9}
	less2  = api.Call{Kind: api.CallAdd, Name: 7, N: -2}
	drop7  = api.Call{Kind: api.CallDrop, Name: 7}
	swap79 = api.Call{Kind: api.CallSwap, Name: 7, Other: 9}
	count  = api.Call{Kind: api.CallCount}
)

var (
	serves = api.Step{Kind: api.StepServer}
	fall   = api.Step{Kind: api.StepFall}
	tick   = api.Step{Kind: api.StepTick}
)

func goes(n int) api.Step { return api.Step{Kind: api.StepClient, N: n} }

func request(client, token int, c api.Call) api.Request {
	return api.Request{Client: client, Token: token, Call: c}
}

func cells(l ...int) []int { return append(l, make([]int, api.MaxCells-len(l))...) }

// made is a machine in which nothing was done yet.
func made(l ...[]api.Call) api.Machine {
	m := api.Machine{Store: api.Store{Cells: cells()}, Up: true}
	for _, calls := range l {
		m.Clients = append(m.Clients, api.Client{Calls: calls})
	}
	return m
}

// two is a machine with two clients: the first one's two calls were heard, and the other one's first call too; its second one was done, and not heard yet.
func two() api.Machine {
	m := made([]api.Call{put7, less2, drop7}, []api.Call{get7, put9, count})
	m.Store.Cells = cells(2, 7, 3, 9, 1)
	m.Store.Past = []api.Request{request(0, 0, put7), request(1, 0, get7), request(0, 1, less2), request(1, 1, put9)}
	m.Clients[0].At, m.Clients[0].Got = 2, []api.Reply{{}, {N: 3}}
	m.Clients[1].At, m.Clients[1].Got = 1, []api.Reply{{N: 5}}
	return m
}

// with is a copy that is other.
func with(m api.Machine, other func(*api.Machine)) api.Machine {
	m = guard.Own(m)
	other(&m)
	return m
}

func same(t *testing.T, what string, got, want any) {
	t.Helper()
	if fmt.Sprint(got) != fmt.Sprint(want) {
		t.Errorf("%s: %v, not %v", what, got, want)
	}
}

func isWhole(t *testing.T, what string, m api.Machine, want bool) {
	t.Helper()
	if got := Whole(m); got != want {
		t.Errorf("%s: whole is %t, not %t: %v", what, got, want, m)
	}
}

func TestNow(t *testing.T) {
	tests := []struct {
		name  string
		store api.Store
		want  []api.Write
	}{
		{"nothing", api.Store{Cells: cells()}, nil},
		{"one", api.Store{Cells: cells(1, 7, 5)}, []api.Write{{At: 7, N: 5}}},
		{"in the order of the entries", api.Store{Cells: cells(3, 9, -1, 2, 0, 7, 5)}, []api.Write{{At: 9, N: -1}, {At: 2}, {At: 7, N: 5}}},
		{"all", api.Store{Cells: []int{5, 5, 50, 4, 40, 3, 30, 2, 20, 1, 10}}, []api.Write{{At: 5, N: 50}, {At: 4, N: 40}, {At: 3, N: 30}, {At: 2, N: 20}, {At: 1, N: 10}}},
		{"what is behind the entries is none", api.Store{Cells: cells(1, 7, 5, 9, 1)}, []api.Write{{At: 7, N: 5}}},
		{"entries as they stand, right or not", api.Store{Cells: cells(2, 7, 5, 7, api.MaxNum+1)}, []api.Write{{At: 7, N: 5}, {At: 7, N: api.MaxNum + 1}}},
		{"a new name is taken back", api.Store{Cells: cells(1, 7, 5), Undo: []api.Write{{At: 0}, {At: 2}, {At: 1}}}, nil},
		{"a dropped one comes back", api.Store{Cells: cells(1, 9, 1, 9, 1), Undo: []api.Write{{At: 2, N: 5}, {At: 1, N: 7}, {At: 0, N: 2}}}, []api.Write{{At: 7, N: 5}, {At: 9, N: 1}}},
		{"the first one is taken back first", api.Store{Cells: cells(1, 7, 5), Undo: []api.Write{{At: 2, N: 4}, {At: 2, N: 3}}}, []api.Write{{At: 7, N: 3}}},
		{"what was done says nothing of it", api.Store{Cells: cells(1, 7, 5), Past: []api.Request{request(0, 0, put9)}}, []api.Write{{At: 7, N: 5}}},
	}
	for _, x := range tests {
		for _, up := range []bool{false, true} {
			same(t, x.name, Now(api.Machine{Store: x.store, Up: up}), x.want)
		}
	}
}

func TestPast(t *testing.T) {
	past := []api.Request{
		request(1, 0, get7),
		request(0, 0, put7),
		request(1, 1, put9),
		request(-1, 9, get7),
		request(0, 1, swap79),
		request(1, 2, get7),
		request(99, 0, drop7),
		request(0, 5, count),
		request(0, 5, get7),
	}
	tests := []struct {
		n    int
		past []api.Request
		told []api.Reply
	}{
		{0, []api.Request{past[1], past[4], past[7], past[8]}, []api.Reply{{}, {N: 1}, {N: 1}, {Err: api.ErrNone}}},
		{1, []api.Request{past[0], past[2], past[5]}, []api.Reply{{Err: api.ErrNone}, {}, {N: 1}}},
		{2, nil, nil},
		{-1, []api.Request{past[3]}, []api.Reply{{N: 5}}},
		{99, []api.Request{past[6]}, []api.Reply{{N: 1}}},
		{math.MinInt, nil, nil},
		{math.MaxInt, nil, nil},
	}
	// What the clients are and got, and what the store has, says nothing of it.
	for _, m := range []api.Machine{made(), two(), {}} {
		m.Store.Past = past
		for _, x := range tests {
			requests, told := Past(m, x.n)
			same(t, fmt.Sprint("those of client ", x.n), requests, x.past)
			same(t, fmt.Sprint("told to client ", x.n), told, x.told)
		}
	}
	for n := range 3 {
		requests, told := Past(made([]api.Call{put7}), n)
		if len(requests)+len(told) != 0 {
			t.Errorf("nothing was done: %v, %v", requests, told)
		}
	}
}

// TestWhole: what was done and heard, or done and not heard yet.
func TestWhole(t *testing.T) {
	isWhole(t, "no clients", made(), true)
	isWhole(t, "nothing was done", made([]api.Call{put7}, nil), true)
	isWhole(t, "two", two(), true)
	isWhole(t, "all is heard", with(two(), func(m *api.Machine) {
		m.Clients[1].At, m.Clients[1].Got = 2, append(m.Clients[1].Got, api.Reply{})
	}), true)
	isWhole(t, "one more of each", with(two(), func(m *api.Machine) {
		m.Clients[0].At, m.Clients[0].Got = 1, m.Clients[0].Got[:1]
	}), true)
	isWhole(t, "all calls are done", with(two(), func(m *api.Machine) {
		m.Clients[0].Calls, m.Clients[1].Calls = m.Clients[0].Calls[:2], m.Clients[1].Calls[:2]
	}), true)
	isWhole(t, "it is in the midst of a drop", with(two(), func(m *api.Machine) {
		m.Store.Cells, m.Store.Undo = cells(1, 9, 1, 9, 1), []api.Write{{At: 2, N: 3}, {At: 1, N: 7}, {At: 0, N: 2}}
	}), true)
	isWhole(t, "an error is told", with(made([]api.Call{get7, put7}), func(m *api.Machine) {
		m.Store.Past = []api.Request{request(0, 0, get7)}
		m.Clients[0].At, m.Clients[0].Got = 1, []api.Reply{{Err: api.ErrNone}}
	}), true)
	isWhole(t, "what is behind the entries", with(two(), func(m *api.Machine) { m.Store.Cells[5] = 9 }), true)
	isWhole(t, "the last answers", with(two(), func(m *api.Machine) { m.Store.Answers = []api.Answer{{Token: 9}} }), true)
	isWhole(t, "who is not there", with(two(), func(m *api.Machine) {
		m.Store.Past = append(m.Store.Past, request(2, 7, count), request(-1, 7, get7))
	}), true)
	isWhole(t, "what is in hand, and what is under way", with(two(), func(m *api.Machine) {
		m.Server = api.Server{Gen: 9, Busy: true, Now: request(1, 2, drop7), Box: [][]byte{{'q'}}}
		m.Up, m.Pause, m.Falls = false, 2, 3
		m.Clients[0].Sent, m.Clients[0].Gen, m.Clients[0].Box = true, 4, [][]byte{{'a'}}
	}), true)
}

// A name that nobody put: it is not whole.
func TestNameThatNobodyPut(t *testing.T) {
	isWhole(t, "a name that nobody put", with(made(), func(m *api.Machine) { m.Store.Cells = cells(1, 7, 5) }), false)
	isWhole(t, "one beside two others", with(two(), func(m *api.Machine) { m.Store.Cells = cells(3, 7, 3, 9, 1, 2, 0) }), false)
	isWhole(t, "one that is taken back", with(two(), func(m *api.Machine) {
		m.Store.Cells, m.Store.Undo = cells(3, 7, 3, 9, 1, 2, 0), []api.Write{{At: 0, N: 2}}
	}), true)
}

// TestNotWhole: each is wrong in one way.
func TestNotWhole(t *testing.T) {
	tests := map[string]func(m *api.Machine){
		"another name":                 func(m *api.Machine) { m.Store.Cells[1] = 8 },
		"another number":               func(m *api.Machine) { m.Store.Cells[4] = 2 },
		"a name less":                  func(m *api.Machine) { m.Store.Cells[0] = 1 },
		"no name":                      func(m *api.Machine) { m.Store.Cells[0] = 0 },
		"the other order":              func(m *api.Machine) { m.Store.Cells = cells(2, 9, 1, 7, 3) },
		"the wrong thing is kept":      func(m *api.Machine) { m.Store.Undo = []api.Write{{At: 2, N: 5}} },
		"a reply less":                 func(m *api.Machine) { m.Clients[0].Got = m.Clients[0].Got[:1] },
		"no reply":                     func(m *api.Machine) { m.Clients[1].Got = nil },
		"a reply more":                 func(m *api.Machine) { m.Clients[0].Got = append(m.Clients[0].Got, api.Reply{}) },
		"a reply more, that is told":   func(m *api.Machine) { m.Clients[1].Got = append(m.Clients[1].Got, api.Reply{}) },
		"another first reply":          func(m *api.Machine) { m.Clients[0].Got[0].N = 5 },
		"another last reply":           func(m *api.Machine) { m.Clients[0].Got[1].N = 5 },
		"another error":                func(m *api.Machine) { m.Clients[0].Got[1].Err = api.ErrNone },
		"another one's reply":          func(m *api.Machine) { m.Clients[1].Got[0] = m.Clients[0].Got[1] },
		"replies turned":               func(m *api.Machine) { slices.Reverse(m.Clients[0].Got) },
		"the other one's replies":      func(m *api.Machine) { m.Clients[0], m.Clients[1] = m.Clients[1], m.Clients[0] },
		"At is less":                   func(m *api.Machine) { m.Clients[0].At-- },
		"At is more":                   func(m *api.Machine) { m.Clients[1].At++ },
		"another token":                func(m *api.Machine) { m.Store.Past[1].Token = 1 },
		"the last token":               func(m *api.Machine) { m.Store.Past[3].Token = 2 },
		"a token below 0":              func(m *api.Machine) { m.Store.Past[0].Token = -1 },
		"another call":                 func(m *api.Machine) { m.Store.Past[1].Call = count },
		"a call with something more":   func(m *api.Machine) { m.Store.Past[1].Call.N = 1 },
		"calls are others":             func(m *api.Machine) { m.Clients[1].Calls[0] = count },
		"the call that is not heard":   func(m *api.Machine) { m.Clients[1].Calls[1] = count },
		"calls are fewer":              func(m *api.Machine) { m.Clients[1].Calls = m.Clients[1].Calls[:1] },
		"calls turned":                 func(m *api.Machine) { m.Store.Past[0].Token, m.Store.Past[2].Token = 1, 0 },
		"done for another one":         func(m *api.Machine) { m.Store.Past[1].Client = 0 },
		"done for nobody":              func(m *api.Machine) { m.Store.Past[1].Client = 2 },
		"not done":                     func(m *api.Machine) { m.Store.Past = slices.Delete(m.Store.Past, 1, 2) },
		"nothing done":                 func(m *api.Machine) { m.Store.Past = nil },
		"done twice":                   func(m *api.Machine) { m.Store.Past = append(m.Store.Past, m.Store.Past[1]) },
		"done twice, one by the other": func(m *api.Machine) { m.Store.Past = slices.Insert(m.Store.Past, 1, m.Store.Past[1]) },
		"two more than are heard":      func(m *api.Machine) { m.Store.Past = append(m.Store.Past, request(1, 2, count)) },
		"somebody did what is seen":    func(m *api.Machine) { m.Store.Past = append(m.Store.Past, request(2, 0, drop7)) },
	}
	for name, other := range tests {
		isWhole(t, name, with(two(), other), false)
	}
}

// TestOneMore: what was done is what was heard, or one more: nothing less, and no call that there is not.
func TestOneMore(t *testing.T) {
	calls := slices.Repeat([]api.Call{count}, api.MaxCalls)
	var past []api.Request
	for i := range api.MaxCalls + 2 {
		past = append(past, request(0, i, count))
	}
	for done := range past {
		for at := -2; at < api.MaxCalls+3; at++ {
			for got := range api.MaxCalls + 3 {
				m := made(calls)
				m.Store.Past = past[:done]
				m.Clients[0].At, m.Clients[0].Got = at, make([]api.Reply, got)
				want := got == at && (done == at || done == at+1) && done <= api.MaxCalls
				isWhole(t, fmt.Sprint(done, " done, At ", at, ", ", got, " heard"), m, want)
			}
		}
	}
}

// TestEachClient: one that is wrong is enough, whichever it is.
func TestEachClient(t *testing.T) {
	m := made([]api.Call{count}, []api.Call{count}, []api.Call{count})
	isWhole(t, "three", m, true)
	for n := range m.Clients {
		isWhole(t, fmt.Sprint("client ", n, " heard what was not said"), with(m, func(m *api.Machine) {
			m.Clients[n].Got = []api.Reply{{}}
		}), false)
		isWhole(t, fmt.Sprint("client ", n, " heard what was not done"), with(m, func(m *api.Machine) {
			m.Clients[n].At, m.Clients[n].Got = 1, []api.Reply{{}}
		}), false)
		isWhole(t, fmt.Sprint("client ", n, " has what it did not call"), with(m, func(m *api.Machine) {
			m.Store.Past = []api.Request{request(n, 0, get7)}
		}), false)
	}
}

func TestIdle(t *testing.T) {
	calls := slices.Repeat([]api.Call{count}, api.MaxCalls)
	tests := []struct {
		name string
		m    api.Machine
		want bool
	}{
		{"no clients", made(), true},
		{"nothing at all", api.Machine{}, true},
		{"no calls", made(nil, []api.Call{}, nil), true},
		{"a call", made([]api.Call{put7}), false},
		{"the last one has a call", made(nil, nil, []api.Call{put7}), false},
		{"the first one has a call", made([]api.Call{put7}, nil, nil), false},
		{"not all are heard", two(), false},
	}
	for _, x := range tests {
		if got := Idle(x.m); got != x.want {
			t.Errorf("%s: idle is %t, not %t", x.name, got, x.want)
		}
	}
	for _, at := range []int{math.MinInt, -1, 0, 1, 7, 8, 9, math.MaxInt} {
		for n := range 3 {
			m := made(nil, nil, nil)
			m.Clients[n].Calls, m.Clients[n].At = calls, at
			// Neither what is under way nor whether it is whole says anything of it.
			m.Server.Busy, m.Clients[n].Sent, m.Clients[n].Box, m.Up = true, true, [][]byte{{'a'}}, false
			if got := Idle(m); got != (at >= 8) {
				t.Errorf("eight calls, and At %d: idle is %t", at, got)
			}
		}
	}
}

// TestStepByStep: nobody sees a put ahead of time, nor a drop.
func TestStepByStep(t *testing.T) {
	m, _ := machine.New([][]api.Call{{put7, drop7}, {get7}})
	see := func(what string, steps []api.Step, now []api.Write, told []api.Reply, idle bool) {
		t.Helper()
		for _, s := range steps {
			m, _ = machine.Do(m, s)
		}
		_, says := Past(m, 0)
		same(t, what, Now(m), now)
		same(t, what, says, told)
		isWhole(t, what, m, true)
		if Idle(m) != idle {
			t.Errorf("%s: idle is %t, not %t", what, !idle, idle)
		}
	}
	has5 := []api.Write{{At: 7, N: 5}}
	see("nothing yet", nil, nil, nil, false)
	see("sent, taken, and written", []api.Step{goes(0), serves, serves, serves, serves}, nil, nil, false)
	see("it fell", []api.Step{fall}, nil, nil, false)
	see("it stood up", []api.Step{tick}, nil, nil, false)
	see("done, and not heard", []api.Step{goes(0), serves, serves, serves, serves, serves}, has5, []api.Reply{{}}, false)
	see("heard", []api.Step{goes(0)}, has5, []api.Reply{{}}, false)
	see("the drop is written", []api.Step{goes(0), serves, serves}, has5, []api.Reply{{}}, false)
	see("it is done", []api.Step{serves}, nil, []api.Reply{{}, {N: 5}}, false)
	see("it is heard", []api.Step{goes(0)}, nil, []api.Reply{{}, {N: 5}}, false)
	see("the other one too", []api.Step{goes(1), serves, serves, goes(1)}, nil, []api.Reply{{}, {N: 5}}, true)
}

// whole says by other means whether a machine is: it holds what the clients should have had done and heard, as a text, against what there is.
func whole(m api.Machine) bool {
	var names []api.Write
	should, is := "", ""
	heard := make([]int, len(m.Clients))
	for _, r := range m.Store.Past {
		var says api.Reply
		names, says = model.Do(names, r.Call)
		if r.Client < 0 || r.Client >= len(m.Clients) {
			continue
		}
		c := m.Clients[r.Client]
		n := heard[r.Client]
		heard[r.Client]++
		if n >= len(c.Calls) || n > len(c.Got) {
			return false
		}
		should += fmt.Sprint(n, c.Calls[n], ";")
		is += fmt.Sprint(r.Token, r.Call, ";")
		if n < len(c.Got) {
			should += fmt.Sprint(says, ";")
			is += fmt.Sprint(c.Got[n], ";")
		}
	}
	for n, c := range m.Clients {
		if heard[n] < len(c.Got) || c.At != len(c.Got) {
			return false
		}
	}
	should += fmt.Sprint(len(names), names)
	cells := slices.Clone(m.Store.Cells)
	for _, w := range m.Store.Undo {
		cells[w.At] = w.N
	}
	var l []api.Write
	for i := range cells[0] {
		l = append(l, api.Write{At: cells[1+2*i], N: cells[2+2*i]})
	}
	return should == is+fmt.Sprint(len(l), l)
}

// others are machines of which one thing is other: a reply, a cell of an entry, or something of what was done.
func others(m api.Machine) []api.Machine {
	var out []api.Machine
	add := func(other func(m *api.Machine)) { out = append(out, with(m, other)) }
	for n, c := range m.Clients {
		for i := range c.Got {
			add(func(m *api.Machine) { m.Clients[n].Got[i].N++ })
			add(func(m *api.Machine) { m.Clients[n].Got[i].Err++ })
			add(func(m *api.Machine) { m.Clients[n].Got = slices.Delete(m.Clients[n].Got, i, i+1) })
		}
		add(func(m *api.Machine) { m.Clients[n].Got = append(m.Clients[n].Got, api.Reply{}) })
		add(func(m *api.Machine) {
			m.Store.Past = append(m.Store.Past, request(n, len(m.Clients[n].Got), get9))
		})
	}
	for i := 1; i < api.MaxCells; i++ {
		add(func(m *api.Machine) { m.Store.Cells[i]++ })
	}
	for i := range m.Store.Past {
		add(func(m *api.Machine) { m.Store.Past[i].Client++ })
		add(func(m *api.Machine) { m.Store.Past[i].Token++ })
		add(func(m *api.Machine) { m.Store.Past[i].Call = get9 })
		add(func(m *api.Machine) { m.Store.Past = slices.Delete(m.Store.Past, i, i+1) })
		add(func(m *api.Machine) { m.Store.Past = slices.Insert(m.Store.Past, i, m.Store.Past[i]) })
		add(func(m *api.Machine) { m.Store.Past = append(m.Store.Past, m.Store.Past[i]) })
		if i > 0 {
			add(func(m *api.Machine) { p := m.Store.Past; p[i], p[i-1] = p[i-1], p[i] })
		}
	}
	return out
}

// TestEveryWay: whatever steps come, each machine is whole; and of those near to it each is seen for what it is.
func TestEveryWay(t *testing.T) {
	m, _ := machine.New([][]api.Call{{put7, drop7}, {get7}})
	every := []api.Step{goes(0), goes(1), serves, fall, tick}
	seen := map[string]bool{}
	wholes, broken := 0, 0
	for l := []api.Machine{m}; len(l) > 0; l = l[1:] {
		isWhole(t, "a machine", l[0], true)
		for _, x := range others(l[0]) {
			want := whole(x)
			isWhole(t, "another one", x, want)
			if want {
				wholes++
			} else {
				broken++
			}
		}
		for _, s := range every {
			x, _ := machine.Do(l[0], s)
			if key := fmt.Sprint(x); !seen[key] && x.Falls <= 1 {
				seen[key] = true
				l = append(l, x)
			}
		}
		if t.Failed() {
			return
		}
	}
	if wholes == 0 || broken == 0 {
		t.Errorf("%d are whole, and %d are not: both must be there", wholes, broken)
	}
}

// dice has numbers that hang on the seed alone.
type dice struct{ seed uint }

func (d *dice) pick(n int) int {
	d.seed = d.seed*1664525 + 1013904223
	return int(d.seed >> 8 & 0xffff % uint(n))
}

func (d *dice) calls() []api.Call {
	every := []api.Call{put7, put9, get7, get9, less2, drop7, swap79, count}
	var out []api.Call
	for range d.pick(api.MaxCalls + 1) {
		out = append(out, every[d.pick(len(every))])
	}
	return out
}

// step falls seldom enough that something is done.
func (d *dice) step() api.Step {
	switch n := d.pick(20); {
	case n == 0:
		return fall
	case n < 4:
		return tick
	case n < 12:
		return goes(n % api.MaxClients)
	}
	return serves
}

// TestLongRuns: each machine is whole; to each client is told what it got, and what is told of one that it did not get yet, if that is done; and who is idle got all.
func TestLongRuns(t *testing.T) {
	for seed := range 60 {
		d := &dice{uint(seed)}
		m, _ := machine.New([][]api.Call{d.calls(), d.calls(), d.calls()})
		for n := 0; !Idle(m); n++ {
			if n == 5000 {
				t.Fatalf("machine %d does not end: %v", seed, m)
			}
			m, _ = machine.Do(m, d.step())
			isWhole(t, fmt.Sprint("run ", seed), m, true)
			for me, c := range m.Clients {
				past, told := Past(m, me)
				if len(past) != len(told) || len(told) < c.At || !slices.Equal(told[:c.At], c.Got) {
					t.Fatalf("client %d got %v, not %v: %v", me, c.Got, told, past)
				}
			}
			if t.Failed() {
				return
			}
		}
		for me, c := range m.Clients {
			if past, _ := Past(m, me); len(past) != len(c.Calls) || len(c.Got) != len(c.Calls) {
				t.Errorf("client %d is idle, with %v of %v", me, past, c.Calls)
			}
		}
		for _, x := range others(m) {
			isWhole(t, "another one", x, whole(x))
		}
	}
}

// seen is all that is seen of a machine.
type seen struct {
	Now         []api.Write
	Past        []api.Request
	Told        []api.Reply
	Whole, Idle bool
}

func look(m api.Machine, n int) seen {
	past, told := Past(m, n)
	return seen{Now(m), past, told, Whole(m), Idle(m)}
}

// givens are machines that are whole, or not.
func givens() map[string]api.Machine {
	return map[string]api.Machine{
		"none":   {},
		"new":    made([]api.Call{put7}, nil),
		"two":    two(),
		"idle":   with(two(), func(m *api.Machine) { m.Clients[0].At, m.Clients[1].At = 3, 3 }),
		"undo":   with(two(), func(m *api.Machine) { m.Store.Undo = []api.Write{{At: 2, N: 9}, {At: 2, N: 3}} }),
		"broken": with(two(), func(m *api.Machine) { m.Store.Cells[2]++ }),
		"down":   with(two(), func(m *api.Machine) { m.Up, m.Pause = false, 2 }),
		"full":   with(two(), func(m *api.Machine) { m.Store.Cells = []int{5, 5, 5, 4, 4, 3, 3, 2, 2, 1, 1} }),
	}
}

// fresh copies without the program, so that a wrong copy there is seen; behind each list comes room, with entries that must neither change nor be looked at.
func fresh(v reflect.Value, room int) reflect.Value {
	out := reflect.New(v.Type()).Elem()
	switch v.Kind() {
	case reflect.Struct:
		for i := range v.NumField() {
			out.Field(i).Set(fresh(v.Field(i), room))
		}
	case reflect.Slice:
		l := reflect.MakeSlice(v.Type(), v.Len()+room, v.Len()+room)
		for i := range l.Len() {
			if i < v.Len() {
				l.Index(i).Set(fresh(v.Index(i), room))
			} else {
				l.Index(i).Set(junk(v.Type().Elem()))
			}
		}
		out.Set(l.Slice(0, v.Len()))
	default:
		out.Set(v)
	}
	return out
}

func junk(t reflect.Type) reflect.Value {
	out := reflect.New(t).Elem()
	switch t.Kind() {
	case reflect.Struct:
		for i := range t.NumField() {
			out.Field(i).Set(junk(t.Field(i).Type))
		}
	case reflect.Slice:
		out.Set(reflect.Append(out, junk(t.Elem())))
	case reflect.Bool:
		out.SetBool(true)
	case reflect.Int:
		out.SetInt(1)
	case reflect.Uint8:
		out.SetUint('q')
	}
	return out
}

func copied(m api.Machine, room int) api.Machine {
	return fresh(reflect.ValueOf(m), room).Interface().(api.Machine)
}

// lists answers all lists of v, with the room behind them; those inside of others come first.
func lists(v reflect.Value) []reflect.Value {
	var out []reflect.Value
	switch v.Kind() {
	case reflect.Struct:
		for i := range v.NumField() {
			out = append(out, lists(v.Field(i))...)
		}
	case reflect.Slice:
		l := v.Slice(0, v.Cap())
		for i := range l.Len() {
			out = append(out, lists(l.Index(i))...)
		}
		out = append(out, l)
	}
	return out
}

// told tells all lists, with the room behind them.
func told(l []reflect.Value) string {
	var out []string
	for _, v := range l {
		out = append(out, fmt.Sprint(v))
	}
	return strings.Join(out, "; ")
}

// wipe changes all entries of all lists, and those behind them.
func wipe(l []reflect.Value) {
	for _, v := range l {
		for i := range v.Len() {
			v.Index(i).SetZero()
		}
	}
}

// apart: no two lists share memory.
func apart(t *testing.T, what string, l []reflect.Value) {
	t.Helper()
	end := func(v reflect.Value) uintptr { return v.Pointer() + uintptr(v.Len())*v.Type().Elem().Size() }
	for i, a := range l {
		for _, b := range l[:i] {
			if a.Pointer() < end(b) && b.Pointer() < end(a) {
				t.Errorf("%s: %v and %v share memory", what, a, b)
			}
		}
	}
}

// TestOnlyReads: what is handed in stays, with its spare room, nothing of it is kept, and each list that is answered is the caller's alone.
func TestOnlyReads(t *testing.T) {
	for kind, given := range givens() {
		for n := range 3 {
			what := fmt.Sprint(kind, " ", n)
			want := look(copied(given, 0), n)
			handed := copied(given, 5)
			in := lists(reflect.ValueOf(&handed).Elem())
			before := told(in)
			got := look(handed, n)
			same(t, what+" with room behind", got, want)
			if now := told(in); now != before {
				t.Errorf("%s: what was handed in is %s, not %s", what, now, before)
			}
			apart(t, what, append(lists(reflect.ValueOf(&got).Elem()), in...))
			wipe(in)
			same(t, what+", when what was handed in is changed", got, want)
		}
	}
}

// TestNilAndEmpty: lists without entries are the same, whichever they are.
func TestNilAndEmpty(t *testing.T) {
	m := made(nil, []api.Call{get7}, nil)
	for _, x := range []api.Machine{{}, m, {Clients: make([]api.Client, 2)}} {
		for n := range 3 {
			same(t, "empty lists", look(copied(x, 0), n), look(x, n))
		}
	}
	isWhole(t, "nil, and nothing was done", m, true)
	isWhole(t, "empty, and nothing was done", copied(m, 0), true)
}

// TestSameAgain: what is answered hangs on what is handed in alone.
func TestSameAgain(t *testing.T) {
	for kind, given := range givens() {
		want := look(given, 0)
		for range 5 {
			same(t, kind+", again", look(given, 0), want)
		}
	}
}

// TestWrongMachines: K1 does not speak of these; nothing may panic.
func TestWrongMachines(t *testing.T) {
	edges := []int{math.MinInt, math.MinInt + 1, -1, 0, 1, 2, 3, 11, 255, math.MaxInt - 1, math.MaxInt}
	for _, x := range edges {
		for n := range 13 {
			m := two()
			m.Store.Cells = slices.Repeat([]int{x}, n)
			m.Store.Undo = []api.Write{{At: x, N: x}, {At: n, N: x}}
			m.Store.Past = slices.Repeat([]api.Request{request(0, x, api.Call{Kind: n, Name: x, Other: x, N: x}), request(x, n, put7)}, n)
			m.Clients[0].At, m.Clients[1].At, m.Clients[1].Got = x, x, make([]api.Reply, n)
			m.Clients[1].Calls = slices.Repeat([]api.Call{{Kind: x, Name: x, Other: x, N: x}}, n)
			m.Clients = slices.Repeat(m.Clients, n)
			for _, who := range edges {
				past, told := Past(m, who)
				if len(past) != len(told) {
					t.Errorf("%v: %d were done, and %d are told", m, len(past), len(told))
				}
				look(m, who)
			}
		}
	}
}
