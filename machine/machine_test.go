package machine

import (
	"bytes"
	"fmt"
	"math"
	"reflect"
	"slices"
	"strings"
	"testing"

	"mendkernel/api"
	"mendkernel/cell"
	"mendkernel/guard"
	"mendkernel/model"
	"mendkernel/store"
	"mendkernel/wire"
)

var (
	put7   = api.Call{Kind: api.CallPut, Name: 7, N: 5}
	get7   = api.Call{Kind: api.CallGet, Name: 7}
	less2  = api.Call{Kind: api.CallAdd, Name: 7, N: -2}
	drop7  = api.Call{Kind: api.CallDrop, Name: 7}
	swap79 = api.Call{Kind: api.CallSwap, Name: 7, Other: 9}
	count  = api.Call{Kind: api.CallCount}
)

// Calls that are wrong, each in one way.
var (
	noKind   = api.Call{Kind: api.CallSwap + 1}
	noName   = api.Call{Kind: api.CallGet, Name: api.MaxName + 1}
	tooLarge = api.Call{Kind: api.CallPut, Name: 7, N: api.MaxNum + 1}
)

var (
	serves = api.Step{Kind: api.StepServer}
	fall   = api.Step{Kind: api.StepFall}
	tick   = api.Step{Kind: api.StepTick}
)

func goes(n int) api.Step { return api.Step{Kind: api.StepClient, N: n} }

func request(client, token int, c api.Call) api.Request {
	return api.Request{Client: client, Token: token, Call: c}
}

func asked(client, token int, c api.Call) []byte { return wire.Request(request(client, token, c)) }

func said(client, token int, says api.Reply) []byte {
	return wire.Answer(api.Answer{Client: client, Token: token, Reply: says})
}

func calls(n int) []api.Call { return slices.Repeat([]api.Call{count}, n) }

// made is a machine in which nothing was done yet.
func made(l ...[]api.Call) api.Machine {
	m := api.Machine{Store: api.Store{Cells: make([]int, api.MaxCells)}, Up: true}
	for _, calls := range l {
		m.Clients = append(m.Clients, api.Client{Calls: calls})
	}
	return m
}

// two is a machine with two clients.
func two() api.Machine { return made([]api.Call{put7, less2, swap79, count}, []api.Call{get7, drop7}) }

// after is what the steps make of a machine; each must go well.
func after(t *testing.T, m api.Machine, l ...api.Step) api.Machine {
	t.Helper()
	for i, s := range l {
		x, err := Do(m, s)
		if err != api.OK {
			t.Fatalf("step %d, %v: %d", i, s, err)
		}
		m = x
	}
	return m
}

func sameClient(a, b api.Client) bool {
	return slices.Equal(a.Calls, b.Calls) && a.At == b.At && a.Sent == b.Sent && a.Gen == b.Gen &&
		slices.EqualFunc(a.Box, b.Box, bytes.Equal) && slices.Equal(a.Got, b.Got)
}

func sameServer(a, b api.Server) bool {
	return a.Gen == b.Gen && slices.EqualFunc(a.Box, b.Box, bytes.Equal) && a.Busy == b.Busy &&
		a.Now == b.Now && slices.Equal(a.Plan, b.Plan) && a.Says == b.Says
}

func sameStore(a, b api.Store) bool {
	return slices.Equal(a.Cells, b.Cells) && slices.Equal(a.Undo, b.Undo) &&
		slices.Equal(a.Answers, b.Answers) && slices.Equal(a.Past, b.Past)
}

func same(a, b api.Machine) bool {
	return sameStore(a.Store, b.Store) && sameServer(a.Server, b.Server) && a.Up == b.Up &&
		a.Pause == b.Pause && a.Falls == b.Falls && slices.EqualFunc(a.Clients, b.Clients, sameClient)
}

func is(t *testing.T, what string, got, want api.Machine) {
	t.Helper()
	if !same(got, want) {
		t.Errorf("%s: the machine is %v, not %v", what, got, want)
	}
}

func isErr(t *testing.T, what string, got, want api.Errno) {
	t.Helper()
	if got != want {
		t.Errorf("%s: %d, not %d", what, got, want)
	}
}

// isDone: the step makes want of m.
func isDone(t *testing.T, what string, m api.Machine, s api.Step, want api.Machine) {
	t.Helper()
	got, err := Do(m, s)
	is(t, what, got, want)
	isErr(t, what, err, api.OK)
}

// isRefused: beside the error the machine is as it was.
func isRefused(t *testing.T, what string, m api.Machine, s api.Step, want api.Errno) {
	t.Helper()
	got, err := Do(m, s)
	is(t, what, got, m)
	isErr(t, what, err, want)
}

func TestNew(t *testing.T) {
	every := []api.Call{put7, get7, drop7, less2, count, swap79}
	tests := [][][]api.Call{
		nil,
		{nil},
		{{}, nil, {}},
		{every},
		{every, nil, {put7}},
		{calls(api.MaxCalls), calls(api.MaxCalls), calls(api.MaxCalls)},
		{{{Kind: api.CallPut, Name: 1, N: -api.MaxNum}, {Kind: api.CallAdd, Name: api.MaxName, N: api.MaxNum}}},
	}
	for _, l := range tests {
		m, err := New(l)
		is(t, fmt.Sprint(l), m, made(l...))
		isErr(t, fmt.Sprint(l), err, api.OK)
	}
}

// TestNewWrong: the first error is told, list by list, and in a list the number of its calls ahead of what is wrong with one; beside it there is no machine.
func TestNewWrong(t *testing.T) {
	tests := []struct {
		name string
		l    [][]api.Call
		want api.Errno
	}{
		{"four clients", make([][]api.Call, api.MaxClients+1), api.ErrMany},
		{"many clients", make([][]api.Call, 99), api.ErrMany},
		{"four clients, the first with too much", [][]api.Call{calls(9), nil, nil, nil}, api.ErrMany},
		{"four clients, the first with a wrong call", [][]api.Call{{noKind}, nil, nil, nil}, api.ErrMany},
		{"too much", [][]api.Call{calls(api.MaxCalls + 1)}, api.ErrMuch},
		{"too much, last", [][]api.Call{nil, {put7}, calls(api.MaxCalls + 1)}, api.ErrMuch},
		{"far too much", [][]api.Call{nil, calls(200)}, api.ErrMuch},
		{"too much, wrong calls", [][]api.Call{slices.Repeat([]api.Call{noKind}, api.MaxCalls+1)}, api.ErrMuch},
		{"too much ahead of a wrong call", [][]api.Call{calls(api.MaxCalls + 1), {noKind}}, api.ErrMuch},
		{"a wrong call ahead of too much", [][]api.Call{{noName}, calls(api.MaxCalls + 1)}, api.ErrName},
		{"no kind", [][]api.Call{{noKind}}, api.ErrKind},
		{"a call of noughts", [][]api.Call{{{}}}, api.ErrKind},
		{"no name", [][]api.Call{{noName}}, api.ErrName},
		{"another name that is none", [][]api.Call{{{Kind: api.CallGet, Name: 7, Other: 9}}}, api.ErrName},
		{"too large", [][]api.Call{{tooLarge}}, api.ErrRange},
		{"the last call", [][]api.Call{append(calls(api.MaxCalls-1), tooLarge)}, api.ErrRange},
		{"the last client", [][]api.Call{{put7}, {get7}, {drop7, noName, swap79}}, api.ErrName},
		{"two wrong calls", [][]api.Call{{put7, tooLarge, noKind}}, api.ErrRange},
		{"two wrong clients", [][]api.Call{{put7}, {tooLarge}, {noKind}}, api.ErrRange},
	}
	for _, x := range tests {
		m, err := New(x.l)
		is(t, x.name, m, api.Machine{})
		isErr(t, x.name, err, x.want)
	}
}

// TestClientSends: its call comes last to the server, and it is sent to that generation.
func TestClientSends(t *testing.T) {
	want := two()
	want.Clients[1].Sent = true
	want.Server.Box = [][]byte{asked(1, 0, get7)}
	isDone(t, "the first one", two(), goes(1), want)
	m := guard.Own(want)
	want.Clients[0].Sent = true
	want.Server.Box = append(want.Server.Box, asked(0, 0, put7))
	isDone(t, "the next one", m, goes(0), want)

	m.Clients[0].At, m.Clients[0].Gen, m.Server.Gen = 2, 3, 4
	want = guard.Own(m)
	want.Clients[0].Sent, want.Clients[0].Gen = true, 4
	want.Server.Box = append(want.Server.Box, asked(0, 2, swap79))
	isDone(t, "a later call, to a later generation", m, goes(0), want)

	want = guard.Own(m)
	want.Clients[1].Gen = 4
	want.Server.Box = append(want.Server.Box, asked(1, 0, get7))
	isDone(t, "again, to another generation", m, goes(1), want)
}

// TestClientHears: then it sends nothing, and the server has no part in it: up or not, with room or not.
func TestClientHears(t *testing.T) {
	boxes := map[string][]byte{"heard": said(0, 0, api.Reply{N: 6}), "not heard": said(1, 0, api.Reply{N: 6}), "no answer": []byte("zap")}
	for name, b := range boxes {
		for _, up := range []bool{false, true} {
			for room := range api.MaxBox + 1 {
				m := two()
				m.Up = up
				m.Server.Box = slices.Repeat([][]byte{asked(1, 0, get7)}, room)
				m.Clients[0].Sent = true
				want := guard.Own(m)
				m.Clients[0].Box = [][]byte{b}
				if name == "heard" {
					want.Clients[0].At, want.Clients[0].Sent, want.Clients[0].Got = 1, false, []api.Reply{{N: 6}}
				}
				isDone(t, name, m, goes(0), want)
			}
		}
	}
}

func TestClientRefused(t *testing.T) {
	down := after(t, two(), fall)
	for _, m := range []api.Machine{two(), down, made(), {}} {
		for _, n := range []int{math.MinInt, -1, len(m.Clients), len(m.Clients) + 1, api.MaxClients, math.MaxInt} {
			isRefused(t, "no such client", m, goes(n), api.ErrNone)
		}
	}
	isRefused(t, "no calls", made(nil), goes(0), api.ErrDone)
	isRefused(t, "no calls, and down", after(t, made(nil), fall), goes(0), api.ErrDone)
	isRefused(t, "down", down, goes(0), api.ErrDead)
	isRefused(t, "sent, and down", after(t, two(), goes(0), fall), goes(0), api.ErrDead)
	isRefused(t, "sent", after(t, two(), goes(0)), goes(0), api.ErrWait)
	isRefused(t, "sent, and taken", after(t, two(), goes(0), serves), goes(0), api.ErrWait)
	ended := two()
	ended.Clients[1].At = 2
	isRefused(t, "all calls were made", ended, goes(1), api.ErrDone)
}

// TestNoRoom: what finds none was not sent, not even to this generation.
func TestNoRoom(t *testing.T) {
	for room := api.MaxBox; room < api.MaxBox+3; room++ {
		m := after(t, two(), goes(1))
		m.Server.Gen, m.Server.Box = 1, slices.Repeat([][]byte{[]byte("zap")}, room)
		isRefused(t, "no room", m, goes(0), api.ErrFull)
		isRefused(t, "no room for what was sent to another one", m, goes(1), api.ErrFull)
		m.Server.Box = m.Server.Box[:api.MaxBox-1]
		want := guard.Own(m)
		want.Clients[0].Sent, want.Clients[0].Gen = true, 1
		want.Server.Box = append(want.Server.Box, asked(0, 0, put7))
		isDone(t, "room for one", m, goes(0), want)
	}
}

// TestServer: from a request to its answer, step by step.
func TestServer(t *testing.T) {
	m := after(t, two(), goes(0), goes(1))
	want := guard.Own(m)
	want.Server.Box = want.Server.Box[1:]
	want.Server.Busy, want.Server.Now = true, request(0, 0, put7)
	want.Server.Plan = []api.Write{{At: 1, N: 7}, {At: 2, N: 5}, {At: 0, N: 1}}
	isDone(t, "taken", m, serves, want)
	undo := []api.Write{{At: 0, N: 0}, {At: 2, N: 0}, {At: 1, N: 0}}
	for i, w := range want.Server.Plan {
		m = guard.Own(want)
		want.Server.Plan = want.Server.Plan[1:]
		want.Store.Cells[w.At] = w.N
		want.Store.Undo = undo[2-i:]
		isDone(t, "written", m, serves, want)
	}
	m = guard.Own(want)
	want.Server = api.Server{Box: m.Server.Box}
	want.Store.Undo = nil
	want.Store.Past = []api.Request{request(0, 0, put7)}
	want.Store.Answers = []api.Answer{{}}
	want.Clients[0].Box = [][]byte{said(0, 0, api.Reply{})}
	isDone(t, "done, and said", m, serves, want)
	m = guard.Own(want)
	want = after(t, m, serves, serves)
	if l := want.Clients[1].Box; len(l) != 1 || !bytes.Equal(l[0], said(1, 0, api.Reply{N: 5})) {
		t.Errorf("the other one's answer: %v came to it", l)
	}
	if !sameClient(want.Clients[0], m.Clients[0]) {
		t.Errorf("the other one's answer: client 0 is %v, not %v", want.Clients[0], m.Clients[0])
	}
}

// TestSaidAgain: what was done already is answered again, and nothing else changes; what comes to a full box is lost.
func TestSaidAgain(t *testing.T) {
	m := after(t, two(), goes(0), serves, serves, serves, serves, serves)
	for n := range api.MaxBox + 2 {
		want := guard.Own(m)
		if n < api.MaxBox-1 {
			want.Clients[0].Box = append(want.Clients[0].Box, said(0, 0, api.Reply{}))
		}
		m.Server.Box = [][]byte{asked(0, 0, put7)}
		isDone(t, "asked again", m, serves, want)
		m = want
	}
}

// TestSaidToNobody: bytes may come of whom there is not; it is done, and nobody hears it.
func TestSaidToNobody(t *testing.T) {
	for n := range api.MaxClients {
		m := made(slices.Repeat([][]api.Call{{get7}}, n)...)
		m.Server.Box = [][]byte{asked(2, 1, count), []byte("zap"), nil}
		want := guard.Own(m)
		want.Server.Box = nil
		want.Store.Past = []api.Request{request(2, 1, count)}
		want.Store.Answers = []api.Answer{{Client: 2, Token: 1}}
		is(t, "nobody is there", after(t, m, serves, serves, serves, serves), want)
	}
}

func TestServerRefused(t *testing.T) {
	isRefused(t, "nothing came", two(), serves, api.ErrWait)
	isRefused(t, "nobody is there", made(), serves, api.ErrWait)
	isRefused(t, "no machine", api.Machine{}, serves, api.ErrDead)
	isRefused(t, "down", after(t, two(), fall), serves, api.ErrDead)
	isRefused(t, "down, in the midst of a write", after(t, two(), goes(0), serves, serves, fall), serves, api.ErrDead)
	for _, came := range [][]byte{asked(0, 0, put7), []byte("zap")} {
		down := after(t, two(), fall)
		down.Server.Box = [][]byte{came}
		isRefused(t, "down, though something came", down, serves, api.ErrDead)
	}
}

// TestFallAndTick: as the guard has them, whatever the machine does.
func TestFallAndTick(t *testing.T) {
	m := two()
	for falls := range api.MaxFalls {
		m = after(t, m, goes(0), goes(1))
		for range falls {
			m = after(t, m, serves)
		}
		want, _ := guard.Fall(m)
		isDone(t, "it falls", m, fall, want)
		m = want
		for !m.Up {
			isRefused(t, "it is down", m, fall, api.ErrDone)
			want := guard.Tick(m)
			isDone(t, "a tick", m, tick, want)
			m = want
		}
		isDone(t, "a tick, and it is up", m, tick, m)
	}
	isRefused(t, "it fell often", m, fall, api.ErrMany)
}

func TestKind(t *testing.T) {
	for _, m := range []api.Machine{two(), after(t, two(), goes(0), serves, fall), made(), {}} {
		for _, kind := range []int{math.MinInt, -1, 0, api.StepTick + 1, 6, 99, math.MaxInt} {
			for _, n := range []int{-1, 0, 1, 2} {
				isRefused(t, "no such kind", m, api.Step{Kind: kind, N: n}, api.ErrKind)
			}
		}
	}
}

// TestNumberOfNobody: a step that is no client's has no N, whatever stands there.
func TestNumberOfNobody(t *testing.T) {
	busy := after(t, two(), goes(0), goes(1), serves, serves)
	for _, m := range []api.Machine{two(), busy, after(t, busy, fall), made()} {
		for _, kind := range []int{api.StepServer, api.StepFall, api.StepTick} {
			want, wantErr := Do(m, api.Step{Kind: kind})
			for _, n := range []int{math.MinInt, -1, 1, 2, 3, math.MaxInt} {
				got, err := Do(m, api.Step{Kind: kind, N: n})
				is(t, "no N", got, want)
				isErr(t, "no N", err, wantErr)
			}
		}
	}
}

// A server that fell in the midst of a write: the cell is 0 again.
func TestFallInTheMidst(t *testing.T) {
	m := after(t, two(), goes(0), serves, serves, serves)
	if m.Store.Cells[2] != 5 || m.Store.Cells[0] != 0 {
		t.Errorf("in the midst of it the cells are %v", m.Store.Cells)
	}
	want := two()
	want.Clients[0].Sent = true
	want.Server.Gen, want.Falls = 1, 1
	is(t, "up again", after(t, m, fall, tick), want)
}

// One put, and one look, and a fall: 5 is heard.
func TestPutAndLookAndFall(t *testing.T) {
	serve := func(n int) []api.Step { return slices.Repeat([]api.Step{serves}, n) }
	run := slices.Concat([]api.Step{goes(0)}, serve(5), []api.Step{goes(0), goes(0)}, serve(1),
		[]api.Step{fall, tick, goes(0)}, serve(2), []api.Step{goes(0)})
	m, err := New([][]api.Call{{put7, get7}})
	isErr(t, "one put, and one look", err, api.OK)
	want := made([]api.Call{put7, get7})
	want.Store = api.Store{
		Cells:   []int{1, 7, 5, 0, 0, 0, 0, 0, 0, 0, 0},
		Answers: []api.Answer{{Token: 1, Reply: api.Reply{N: 5}}},
		Past:    []api.Request{request(0, 0, put7), request(0, 1, get7)},
	}
	want.Server.Gen, want.Falls = 1, 1
	want.Clients[0].At, want.Clients[0].Gen, want.Clients[0].Got = 2, 1, []api.Reply{{}, {N: 5}}
	is(t, "one put, and one look, and a fall", after(t, m, run...), want)
}

// everyStep has the steps that may change a machine, and some that may not.
func everyStep() []api.Step { return []api.Step{goes(0), goes(1), goes(2), serves, fall, tick, {}} }

// mine answers those of Past that are client n's, and what the model tells of them.
func mine(m api.Machine, n int) ([]api.Request, []api.Reply) {
	_, told := model.All(m.Store.Past)
	var past []api.Request
	var replies []api.Reply
	for i, r := range m.Store.Past {
		if r.Client == n {
			past, replies = append(past, r), append(replies, told[i])
		}
	}
	return past, replies
}

// isWhole: the store has what was done, and nothing else, and each client heard of its calls what the model tells, each done once, in turn.
func isWhole(t *testing.T, m api.Machine) {
	t.Helper()
	cells := store.Back(m.Store).Cells
	names, _ := model.All(m.Store.Past)
	if err := cell.Wrong(cells); err != api.OK || !slices.Equal(model.Of(cells), names) {
		t.Fatalf("the cells are %v (%d), not %v: %v", cells, err, names, m)
	}
	for n, c := range m.Clients {
		past, replies := mine(m, n)
		if len(past) != c.At && len(past) != c.At+1 || len(c.Got) != c.At || !slices.Equal(c.Got, replies[:c.At]) {
			t.Fatalf("client %d heard %v, not %v: %v", n, c.Got, replies, m)
		}
		for i, r := range past {
			if r != request(n, i, c.Calls[i]) {
				t.Fatalf("client %d: %v was done as number %d: %v", n, r, i, m)
			}
		}
	}
}

// isInBounds: what a machine has in hand stays small, and who is down has nothing.
func isInBounds(t *testing.T, m api.Machine) {
	t.Helper()
	if len(m.Server.Box) > api.MaxBox || m.Server.Gen > m.Falls || m.Falls > api.MaxFalls || m.Up != (m.Pause == 0) {
		t.Fatalf("it is out of bounds: %v", m)
	}
	if !m.Up && !sameServer(m.Server, api.Server{Gen: m.Server.Gen}) {
		t.Fatalf("it is down, with something in hand: %v", m)
	}
	for _, c := range m.Clients {
		if len(c.Box) > api.MaxBox || c.At > len(c.Calls) {
			t.Fatalf("a client is out of bounds: %v", m)
		}
	}
}

// reach answers all machines that steps make of m, as far as it falls so often.
func reach(t *testing.T, m api.Machine, falls int) []api.Machine {
	t.Helper()
	seen := map[string]bool{fmt.Sprint(m): true}
	out := []api.Machine{m}
	for i := 0; i < len(out); i++ {
		// Here already, since a machine that is wrong may have no end.
		isWhole(t, out[i])
		isInBounds(t, out[i])
		for _, s := range everyStep() {
			x, err := Do(out[i], s)
			if err != api.OK && !same(x, out[i]) {
				t.Fatalf("%v of %v: %d, and it is %v", s, out[i], err, x)
			}
			if key := fmt.Sprint(x); !seen[key] && x.Falls <= falls {
				seen[key] = true
				out = append(out, x)
			}
		}
	}
	return out
}

// TestEveryWay: whatever steps come, and wherever it falls, nothing wrong is ever seen.
func TestEveryWay(t *testing.T) {
	tests := [][][]api.Call{
		{{put7, less2}, {drop7}},
		{{put7}, {get7}, {count}},
	}
	for _, l := range tests {
		m, _ := New(l)
		if !slices.ContainsFunc(reach(t, m, 2), ended) {
			t.Errorf("%v: they are never heard", l)
		}
	}
}

// dice has numbers that hang on the seed alone.
type dice struct{ seed uint }

func (d *dice) pick(n int) int {
	d.seed = d.seed*1664525 + 1013904223
	return int(d.seed >> 8 & 0xffff % uint(n))
}

func (d *dice) call() api.Call {
	name, n := 1+d.pick(4), d.pick(90)-30
	switch kind := 1 + d.pick(6); kind {
	case api.CallCount:
		return count
	case api.CallPut, api.CallAdd:
		return api.Call{Kind: kind, Name: name, N: n}
	case api.CallSwap:
		return api.Call{Kind: kind, Name: name, Other: 1 + d.pick(4)}
	default:
		return api.Call{Kind: kind, Name: name}
	}
}

func (d *dice) calls() [][]api.Call {
	out := make([][]api.Call, d.pick(api.MaxClients+1))
	for n := range out {
		for range d.pick(api.MaxCalls + 1) {
			out[n] = append(out[n], d.call())
		}
	}
	return out
}

// step falls seldom enough that something is done.
func (d *dice) step() api.Step {
	switch d.pick(30) {
	case 0:
		return fall
	case 1, 2, 3:
		return tick
	case 4:
		return api.Step{Kind: d.pick(9) - 2, N: d.pick(9) - 2}
	}
	if n := d.pick(api.MaxClients + 2); n < api.MaxClients {
		return goes(n)
	}
	return serves
}

func ended(m api.Machine) bool {
	return !slices.ContainsFunc(m.Clients, func(c api.Client) bool { return c.At < len(c.Calls) })
}

// TestAsIfNobodyHadEverFallen: each call is done once, in turn, and its client hears what the model tells; beside errors nothing changes.
func TestAsIfNobodyHadEverFallen(t *testing.T) {
	falls := 0
	for seed := range 200 {
		d := &dice{uint(seed)}
		m, err := New(d.calls())
		isErr(t, "right calls", err, api.OK)
		for n := 0; !ended(m); n++ {
			if n == 5000 {
				t.Fatalf("machine %d does not end: %v", seed, m)
			}
			s := d.step()
			x, err := Do(m, s)
			if err != api.OK {
				is(t, fmt.Sprint(s, " is refused"), x, m)
			}
			m = x
			isInBounds(t, m)
		}
		isWhole(t, m)
		falls += m.Falls
	}
	if falls == 0 {
		t.Error("nobody fell")
	}
}

// TestWhoWasAnsweredWentBefore: a call that is made when another one was heard is done behind it.
func TestWhoWasAnsweredWentBefore(t *testing.T) {
	for seed := range 100 {
		d := &dice{uint(seed)}
		m, _ := New([][]api.Call{{put7, less2, drop7, put7}, {get7, get7, count, get7}, {less2, count, drop7}})
		before := map[api.Request][]api.Request{}
		for n := 0; !ended(m) && n < 5000; n++ {
			s := d.step()
			x, _ := Do(m, s)
			for me, c := range x.Clients {
				was := m.Clients[me]
				if c.Sent && !was.Sent {
					before[request(me, c.At, c.Calls[c.At])] = heard(m)
				}
			}
			m = x
		}
		for r, l := range before {
			for _, earlier := range l {
				if slices.Index(m.Store.Past, earlier) > slices.Index(m.Store.Past, r) {
					t.Fatalf("%v was heard ahead of %v, but not done ahead of it: %v", earlier, r, m.Store.Past)
				}
			}
		}
	}
}

// heard answers the requests whose answers were heard.
func heard(m api.Machine) []api.Request {
	var out []api.Request
	for n, c := range m.Clients {
		for i := range c.At {
			out = append(out, request(n, i, c.Calls[i]))
		}
	}
	return out
}

// all is a machine, lists of calls, and what is told.
type all struct {
	M api.Machine
	L [][]api.Call
	E api.Errno
}

func isAll(t *testing.T, what string, got, want all) {
	t.Helper()
	is(t, what, got.M, want.M)
	isErr(t, what, got.E, want.E)
}

// givens are machines of every kind of step, and lists of calls that are right or wrong.
func givens(t *testing.T) map[string]all {
	busy := after(t, two(), goes(0), serves, serves, goes(1))
	answered := after(t, busy, serves, serves, serves)
	full := two()
	full.Server.Box = slices.Repeat([][]byte{[]byte("zap")}, api.MaxBox)
	often := guard.Own(busy)
	often.Falls = api.MaxFalls
	return map[string]all{
		"none":       {},
		"new":        {M: two(), L: [][]api.Call{{put7, less2}, {}, {get7}}},
		"busy":       {M: busy, L: [][]api.Call{calls(api.MaxCalls + 1)}},
		"answered":   {M: answered, L: make([][]api.Call, api.MaxClients+1)},
		"heard":      {M: after(t, answered, goes(0)), L: [][]api.Call{{put7}, {get7, noName}}},
		"said again": {M: after(t, answered, fall, tick, goes(1), serves), L: [][]api.Call{{noKind}}},
		"full":       {M: full, L: [][]api.Call{{swap79}}},
		"often":      {M: often},
		"down":       {M: after(t, answered, fall)},
		"down twice": {M: after(t, busy, fall, tick, goes(0), serves, serves, fall)},
	}
}

func changes() map[string]func(all) all {
	out := map[string]func(all) all{
		"New": func(x all) all {
			m, err := New(x.L)
			return all{M: m, E: err}
		},
	}
	for _, s := range everyStep() {
		out[fmt.Sprint("Do", s)] = func(x all) all {
			m, err := Do(x.M, s)
			return all{M: m, E: err}
		}
	}
	return out
}

// fresh copies without the program, so that a wrong copy there is seen; behind each list comes room, with entries that must neither change nor be looked at.
func fresh(v reflect.Value, room int) reflect.Value {
	out := reflect.New(v.Type()).Elem()
	switch v.Kind() {
	case reflect.Struct:
		for i := range v.NumField() {
			out.Field(i).Set(fresh(v.Field(i), room))
		}
	case reflect.Slice:
		l := reflect.MakeSlice(v.Type(), v.Len()+room, v.Len()+room)
		for i := range l.Len() {
			if i < v.Len() {
				l.Index(i).Set(fresh(v.Index(i), room))
			} else {
				l.Index(i).Set(junk(v.Type().Elem()))
			}
		}
		out.Set(l.Slice(0, v.Len()))
	default:
		out.Set(v)
	}
	return out
}

func junk(t reflect.Type) reflect.Value {
	out := reflect.New(t).Elem()
	switch t.Kind() {
	case reflect.Struct:
		for i := range t.NumField() {
			out.Field(i).Set(junk(t.Field(i).Type))
		}
	case reflect.Slice:
		out.Set(reflect.Append(out, junk(t.Elem())))
	case reflect.Bool:
		out.SetBool(true)
	case reflect.Int:
		out.SetInt(6)
	case reflect.Uint8:
		out.SetUint('q')
	}
	return out
}

func copied(x all, room int) all { return fresh(reflect.ValueOf(x), room).Interface().(all) }

// lists answers all lists of v, with the room behind them; those inside of others come first.
func lists(v reflect.Value) []reflect.Value {
	var out []reflect.Value
	switch v.Kind() {
	case reflect.Struct:
		for i := range v.NumField() {
			out = append(out, lists(v.Field(i))...)
		}
	case reflect.Slice:
		l := v.Slice(0, v.Cap())
		for i := range l.Len() {
			out = append(out, lists(l.Index(i))...)
		}
		out = append(out, l)
	}
	return out
}

func listsOf(x all) []reflect.Value { return lists(reflect.ValueOf(&x).Elem()) }

// told tells all lists, with the room behind them.
func told(x all) string {
	var out []string
	for _, l := range listsOf(x) {
		out = append(out, fmt.Sprint(l))
	}
	return strings.Join(out, "; ")
}

// wipe changes all entries of all lists, and those behind them.
func wipe(x all) {
	for _, l := range listsOf(x) {
		for i := range l.Len() {
			l.Index(i).SetZero()
		}
	}
}

// apart: no two lists share memory.
func apart(t *testing.T, what string, l []reflect.Value) {
	t.Helper()
	end := func(v reflect.Value) uintptr { return v.Pointer() + uintptr(v.Len())*v.Type().Elem().Size() }
	for i, a := range l {
		for _, b := range l[:i] {
			if a.Pointer() < end(b) && b.Pointer() < end(a) {
				t.Errorf("%s: %v and %v share memory", what, a, b)
			}
		}
	}
}

// TestOnlyReads: what is handed in stays, with its spare room, nothing of it is kept, and each list that is answered is the caller's alone.
func TestOnlyReads(t *testing.T) {
	for kind, given := range givens(t) {
		for name, do := range changes() {
			what := name + ", " + kind
			want := do(copied(given, 0))
			handed := copied(given, 5)
			before := told(handed)
			got := do(handed)
			isAll(t, what+" with room behind", got, want)
			if now := told(handed); now != before {
				t.Errorf("%s: what was handed in is %s, not %s", what, now, before)
			}
			apart(t, what, append(listsOf(got), listsOf(handed)...))
			wipe(handed)
			isAll(t, what+", when what was handed in is changed", got, want)
		}
	}
}

// TestNilAndEmpty: lists without entries are the same, whichever they are.
func TestNilAndEmpty(t *testing.T) {
	for _, up := range []bool{false, true} {
		m := made(nil, []api.Call{get7}, nil)
		m.Up, m.Pause = up, 1
		m.Clients[0].Box = [][]byte{nil}
		for _, x := range []all{{M: m, L: [][]api.Call{nil, {get7}, nil}}, {M: api.Machine{Up: up}}} {
			for name, do := range changes() {
				isAll(t, name, do(copied(x, 0)), do(x))
			}
		}
	}
}

// TestSameAgain: what is answered hangs on what is handed in alone.
func TestSameAgain(t *testing.T) {
	for kind, given := range givens(t) {
		for name, do := range changes() {
			want := do(given)
			for range 5 {
				isAll(t, name+", "+kind+", again", do(given), want)
			}
		}
	}
}

// TestWrongMachines: J1 speaks of machines that New and Do make only; of others nothing may panic, and a step that is refused changes nothing.
func TestWrongMachines(t *testing.T) {
	edges := []int{math.MinInt, -1, 0, 1, 2, 3, 11, 255, math.MaxInt}
	for _, x := range edges {
		for n := range 13 {
			for i := range 8 {
				m := two()
				m.Store.Cells = slices.Repeat([]int{x}, n)
				m.Store.Undo = []api.Write{{At: x, N: x}, {At: n, N: x}}
				m.Store.Answers = []api.Answer{{Client: x, Token: x, Reply: api.Reply{Err: api.Errno(x), N: x}}, {Token: x}}
				m.Server.Gen, m.Server.Busy, m.Server.Now = x, i&1 > 0, request(x, x, api.Call{Kind: n, Name: x, Other: x, N: x})
				m.Server.Box = slices.Repeat([][]byte{asked(0, n, swap79), nil, asked(x, x, put7)}, n)
				m.Server.Says = api.Reply{Err: api.Errno(n), N: x}
				m.Falls, m.Up, m.Pause = x, i&2 > 0, x
				m.Clients[0].At, m.Clients[0].Sent, m.Clients[1].Gen = x, i&4 > 0, x
				m.Clients[1].Calls = []api.Call{{Kind: x, Name: x, Other: x, N: x}}
				m.Clients = slices.Repeat(m.Clients, n)
				for _, kind := range edges {
					for _, number := range edges {
						got, err := Do(m, api.Step{Kind: kind, N: number})
						if err != api.OK && !same(got, m) {
							t.Fatalf("%v: beside %d it is %v", m, err, got)
						}
					}
				}
			}
		}
	}
}
