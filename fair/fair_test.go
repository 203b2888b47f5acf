package fair

import (
	"bytes"
	"fmt"
	"math"
	"reflect"
	"slices"
	"strings"
	"testing"

	"mendkernel/api"
	"mendkernel/guard"
	"mendkernel/look"
	"mendkernel/machine"
	"mendkernel/model"
	"mendkernel/wire"
)

var (
	put7   = api.Call{Kind: api.CallPut, Name: 7, N: 5}
	get7   = api.Call{Kind: api.CallGet, Name: 7}
	less2  = api.Call{Kind: api.CallAdd, Name: 7, N: -2}
	drop7  = api.Call{Kind: api.CallDrop, Name: 7}
	swap79 = api.Call{Kind: api.CallSwap, Name: 7, Other: 9}
	count  = api.Call{Kind: api.CallCount}
)

// Calls that are wrong, each in one way.
var (
	noKind   = api.Call{Kind: api.CallSwap + 1}
	noName   = api.Call{Kind: api.CallGet, Name: api.MaxName + 1}
	tooLarge = api.Call{Kind: api.CallPut, Name: 7, N: api.MaxNum + 1}
)

var (
	serves = api.Step{Kind: api.StepServer}
	fall   = api.Step{Kind: api.StepFall}
	tick   = api.Step{Kind: api.StepTick}
)

func goes(n int) api.Step { return api.Step{Kind: api.StepClient, N: n} }

func request(client, token int, c api.Call) api.Request {
	return api.Request{Client: client, Token: token, Call: c}
}

func asked(client, token int, c api.Call) []byte { return wire.Request(request(client, token, c)) }

func said(client, token int, says api.Reply) []byte {
	return wire.Answer(api.Answer{Client: client, Token: token, Reply: says})
}

func cells(l ...int) []int { return append(l, make([]int, api.MaxCells-len(l))...) }

// made is a machine in which nothing was done yet.
func made(l ...[]api.Call) api.Machine {
	m := api.Machine{Store: api.Store{Cells: cells()}, Up: true}
	for _, calls := range l {
		m.Clients = append(m.Clients, api.Client{Calls: calls})
	}
	return m
}

// with is a copy that is other.
func with(m api.Machine, other func(*api.Machine)) api.Machine {
	m = guard.Own(m)
	other(&m)
	return m
}

// felled is a machine that is down for so many ticks.
func felled(m api.Machine, pause int) api.Machine {
	return with(m, func(m *api.Machine) { m.Up, m.Pause, m.Falls = false, pause, pause })
}

// after is what the steps make of a machine, whatever they tell.
func after(m api.Machine, l ...api.Step) api.Machine {
	for _, s := range l {
		m, _ = machine.Do(m, s)
	}
	return m
}

func sameClient(a, b api.Client) bool {
	return slices.Equal(a.Calls, b.Calls) && a.At == b.At && a.Sent == b.Sent && a.Gen == b.Gen &&
		slices.EqualFunc(a.Box, b.Box, bytes.Equal) && slices.Equal(a.Got, b.Got)
}

func sameServer(a, b api.Server) bool {
	return a.Gen == b.Gen && slices.EqualFunc(a.Box, b.Box, bytes.Equal) && a.Busy == b.Busy &&
		a.Now == b.Now && slices.Equal(a.Plan, b.Plan) && a.Says == b.Says
}

func sameStore(a, b api.Store) bool {
	return slices.Equal(a.Cells, b.Cells) && slices.Equal(a.Undo, b.Undo) &&
		slices.Equal(a.Answers, b.Answers) && slices.Equal(a.Past, b.Past)
}

func same(a, b api.Machine) bool {
	return sameStore(a.Store, b.Store) && sameServer(a.Server, b.Server) && a.Up == b.Up &&
		a.Pause == b.Pause && a.Falls == b.Falls && slices.EqualFunc(a.Clients, b.Clients, sameClient)
}

func is(t *testing.T, what string, got, want api.Machine) {
	t.Helper()
	if !same(got, want) {
		t.Errorf("%s: the machine is %v, not %v", what, got, want)
	}
}

func isErr(t *testing.T, what string, got, want api.Errno) {
	t.Helper()
	if got != want {
		t.Errorf("%s: %d, not %d", what, got, want)
	}
}

func isRound(t *testing.T, what string, m, want api.Machine) {
	t.Helper()
	is(t, what, Round(m), want)
}

// isSettled: it is idle behind so many rounds, and these are what Settle does.
func isSettled(t *testing.T, what string, m api.Machine, want int) api.Machine {
	t.Helper()
	got, rounds := Settle(m)
	if rounds != want {
		t.Errorf("%s: %d rounds, not %d", what, rounds, want)
	}
	for range rounds {
		m = Round(m)
	}
	is(t, what, got, m)
	return got
}

// played answers what Play makes of right calls and not too many steps.
func played(t *testing.T, l [][]api.Call, steps []api.Step) api.Machine {
	t.Helper()
	m, told, err := Play(l, steps)
	isErr(t, "played", err, api.OK)
	if len(told) != len(steps) {
		t.Errorf("%d steps told %d errors", len(steps), len(told))
	}
	return m
}

// TestPlay: each step is done, behind those that were refused too.
func TestPlay(t *testing.T) {
	runs := []struct {
		s    api.Step
		want api.Errno
	}{
		{goes(0), api.OK},
		{goes(0), api.ErrWait},
		{serves, api.OK},
		{serves, api.OK},
		{goes(2), api.ErrNone},
		{goes(-1), api.ErrNone},
		{api.Step{}, api.ErrKind},
		{api.Step{Kind: api.StepTick + 1}, api.ErrKind},
		{fall, api.OK},
		{fall, api.ErrDone},
		{serves, api.ErrDead},
		{goes(0), api.ErrDead},
		{goes(1), api.ErrDead},
		{tick, api.OK},
		{tick, api.OK},
		{serves, api.ErrWait},
		{goes(1), api.OK},
		{serves, api.OK},
		{serves, api.OK},
		{goes(1), api.OK},
		{goes(1), api.ErrDone},
		{goes(0), api.OK},
	}
	var steps []api.Step
	var want []api.Errno
	for _, x := range runs {
		steps, want = append(steps, x.s), append(want, x.want)
	}
	m, told, err := Play([][]api.Call{{put7, get7}, {count}}, steps)
	isErr(t, "a run", err, api.OK)
	if !slices.Equal(told, want) {
		t.Errorf("a run tells %v, not %v", told, want)
	}
	x := made([]api.Call{put7, get7}, []api.Call{count})
	x.Store.Past = []api.Request{request(1, 0, count)}
	x.Store.Answers = []api.Answer{{Client: 1}}
	x.Server.Gen, x.Server.Box, x.Falls = 1, [][]byte{asked(0, 0, put7)}, 1
	x.Clients[0].Sent, x.Clients[0].Gen = true, 1
	x.Clients[1].At, x.Clients[1].Gen, x.Clients[1].Got = 1, 1, []api.Reply{{}}
	is(t, "a run", m, x)
}

// TestPlayNothing: without steps it is a new machine.
func TestPlayNothing(t *testing.T) {
	for _, steps := range [][]api.Step{nil, {}} {
		for _, l := range [][][]api.Call{nil, {}, {nil}, {{put7, get7}, {}, {count}}, {slices.Repeat([]api.Call{count}, api.MaxCalls), nil, nil}} {
			is(t, "no steps", played(t, l, steps), made(l...))
		}
	}
}

// TestPlayFalls: it falls as often as it may, and no more.
func TestPlayFalls(t *testing.T) {
	var steps []api.Step
	for n := range api.MaxFalls {
		ticks := slices.Repeat([]api.Step{tick}, min(n+1, api.MaxPause))
		steps = append(append(steps, fall), ticks...)
	}
	want := append(make([]api.Errno, len(steps)), api.ErrMany)
	m, told, err := Play(make([][]api.Call, 2), append(steps, fall))
	isErr(t, "many falls", err, api.OK)
	if !slices.Equal(told, want) {
		t.Errorf("many falls: %v, not %v", told, want)
	}
	x := made(nil, nil)
	x.Falls, x.Server.Gen = api.MaxFalls, api.MaxFalls
	is(t, "many falls", m, x)
}

// TestPlayWrong: wrong lists are told ahead of too many steps; beside an error there is nothing.
func TestPlayWrong(t *testing.T) {
	much := slices.Repeat([]api.Call{count}, api.MaxCalls+1)
	some := slices.Repeat([]api.Step{goes(0), serves}, api.MaxSteps)
	tests := []struct {
		name  string
		l     [][]api.Call
		steps int
		want  api.Errno
	}{
		{"no steps", [][]api.Call{{put7}}, 0, api.OK},
		{"as many as may be", [][]api.Call{{put7}}, api.MaxSteps, api.OK},
		{"one too many", [][]api.Call{{put7}}, api.MaxSteps + 1, api.ErrMany},
		{"twice as many", [][]api.Call{{put7}}, 2 * api.MaxSteps, api.ErrMany},
		{"one too many, and nobody is there", nil, api.MaxSteps + 1, api.ErrMany},
		{"four clients", make([][]api.Call, api.MaxClients+1), 3, api.ErrMany},
		{"four clients, and no steps", make([][]api.Call, api.MaxClients+1), 0, api.ErrMany},
		{"too much", [][]api.Call{nil, much}, 3, api.ErrMuch},
		{"no kind", [][]api.Call{{put7, noKind}}, 3, api.ErrKind},
		{"no name", [][]api.Call{{put7}, {noName}}, 3, api.ErrName},
		{"too large", [][]api.Call{{tooLarge}}, 3, api.ErrRange},
		{"too much, and too many steps", [][]api.Call{much}, api.MaxSteps + 1, api.ErrMuch},
		{"no kind, and too many steps", [][]api.Call{{noKind}}, api.MaxSteps + 1, api.ErrKind},
		{"no name, and too many steps", [][]api.Call{{noName}}, 2 * api.MaxSteps, api.ErrName},
		{"too large, and too many steps", [][]api.Call{{}, {tooLarge}}, api.MaxSteps + 1, api.ErrRange},
	}
	for _, x := range tests {
		m, told, err := Play(x.l, some[:x.steps])
		isErr(t, x.name, err, x.want)
		if err == api.OK {
			is(t, x.name, m, after(made(x.l...), some[:x.steps]...))
			if len(told) != x.steps {
				t.Errorf("%s: %d errors", x.name, len(told))
			}
			continue
		}
		is(t, x.name, m, api.Machine{})
		if len(told) != 0 {
			t.Errorf("%s: it tells %v", x.name, told)
		}
	}
}

// sent is a machine whose clients each sent their first call to its generation, with the server idle.
func sent(gen int, l ...[]api.Call) api.Machine {
	m := made(l...)
	m.Server.Gen = gen
	for n, calls := range l {
		m.Clients[n].Sent, m.Clients[n].Gen = true, gen
		m.Server.Box = append(m.Server.Box, asked(n, 0, calls[0]))
	}
	return m
}

// taken has the server at work at the first of what came.
func taken(m api.Machine, now api.Request, plan ...api.Write) api.Machine {
	return with(m, func(m *api.Machine) {
		m.Server.Box = m.Server.Box[1:]
		m.Server.Busy, m.Server.Now, m.Server.Plan = true, now, plan
	})
}

// TestRound: the tick is first, then each client in turn, and then the server: what one of them does the next one has.
func TestRound(t *testing.T) {
	l := [][]api.Call{{put7, get7}, {count}, {get7}}
	plan := []api.Write{{At: 1, N: 7}, {At: 2, N: 5}, {At: 0, N: 1}}
	isRound(t, "all send, and the first one's is taken", made(l...), taken(sent(0, l...), request(0, 0, put7), plan...))

	up := taken(sent(1, l...), request(0, 0, put7), plan...)
	up.Falls = 1
	isRound(t, "it stands up, and all send", felled(made(l...), 1), up)

	down := felled(made(l...), 3)
	down.Pause = 2
	isRound(t, "one tick of three", felled(made(l...), 3), down)

	down.Clients[1].Sent, down.Clients[1].Box = true, [][]byte{said(1, 0, api.Reply{N: 1})}
	hears := with(down, func(m *api.Machine) {
		m.Pause = 1
		m.Clients[1] = api.Client{Calls: l[1], At: 1, Got: []api.Reply{{N: 1}}}
	})
	isRound(t, "who has an answer hears it from one that is down", down, hears)

	writes := taken(sent(0, l...), request(0, 0, put7), plan...)
	wrote := with(writes, func(m *api.Machine) {
		m.Server.Plan = plan[1:]
		m.Store.Cells[1], m.Store.Undo = 7, []api.Write{{At: 1}}
	})
	isRound(t, "one write", writes, wrote)
	isRound(t, "it fell in the midst of it, and it is sent again", after(wrote, fall), up)
	many := made(nil, nil, nil, nil, l[1])
	many.Clients[4].Box = [][]byte{[]byte("zap")}
	isRound(t, "each one there is, also of too many", many, made(nil, nil, nil, nil, l[1]))
	isRound(t, "nobody is there", made(), made())
	isRound(t, "nobody calls", made(nil, nil), made(nil, nil))
}

// TestRoundSays: what the server says is there at the end of a round, and heard in the next; then its client sends nothing yet.
func TestRoundSays(t *testing.T) {
	l := []api.Call{count, count}
	m := taken(sent(0, l), request(0, 0, count))
	says := made(l)
	says.Store.Past, says.Store.Answers = []api.Request{request(0, 0, count)}, []api.Answer{{}}
	says.Clients[0].Sent, says.Clients[0].Box = true, [][]byte{said(0, 0, api.Reply{})}
	isRound(t, "it is said", m, says)
	hears := with(says, func(m *api.Machine) {
		m.Clients[0] = api.Client{Calls: l, At: 1, Got: []api.Reply{{}}}
	})
	isRound(t, "it is heard", says, hears)
	next := with(hears, func(m *api.Machine) {
		m.Clients[0].Sent = true
		m.Server.Busy, m.Server.Now = true, request(0, 1, count)
	})
	isRound(t, "the next one is sent, and taken", hears, next)
}

// TestRoundNoRoom: those who come first have what room there is; the others are refused, and all go on.
func TestRoundNoRoom(t *testing.T) {
	l := [][]api.Call{{count}, {count}, {count}}
	for room := range api.MaxBox + 1 {
		m := made(l...)
		m.Server.Box = slices.Repeat([][]byte{[]byte("zap")}, api.MaxBox-room)
		want := guard.Own(m)
		for n := range room {
			want.Clients[n].Sent = true
			want.Server.Box = append(want.Server.Box, asked(n, 0, count))
		}
		want.Server.Box = want.Server.Box[1:]
		if room == api.MaxBox {
			want.Server.Busy, want.Server.Now = true, request(0, 0, count)
		}
		isRound(t, fmt.Sprint("room for ", room), m, want)
	}
}

// TestSettle: it ends when all is heard, and not a round later.
func TestSettle(t *testing.T) {
	get := []api.Call{get7}
	tests := []struct {
		name string
		m    api.Machine
		want int
		got  [][]api.Reply
	}{
		{"nobody is there", made(), 0, nil},
		{"nobody calls", made(nil, []api.Call{}, nil), 0, make([][]api.Reply, 3)},
		{"down, and nobody calls", felled(made(nil), 3), 0, make([][]api.Reply, 1)},
		{"one look", made(get), 3, [][]api.Reply{{{Err: api.ErrNone}}}},
		{"one put", made([]api.Call{put7}), 6, [][]api.Reply{{{}}}},
		{"one put, and one look", made([]api.Call{put7, get7}), 9, [][]api.Reply{{{}, {N: 5}}}},
		{"the last one looks", made(nil, nil, get), 3, [][]api.Reply{nil, nil, {{Err: api.ErrNone}}}},
		{"two look", made(get, get), 5, [][]api.Reply{{{Err: api.ErrNone}}, {{Err: api.ErrNone}}}},
		{"one puts, two look", made([]api.Call{put7}, get, get), 10, [][]api.Reply{{{}}, {{N: 5}}, {{N: 5}}}},
		{"down for one tick", felled(made(get), 1), 3, [][]api.Reply{{{Err: api.ErrNone}}}},
		{"down for three", felled(made(get), 3), 5, [][]api.Reply{{{Err: api.ErrNone}}}},
		{"sent already", sent(0, get), 3, [][]api.Reply{{{Err: api.ErrNone}}}},
		{"taken already", taken(sent(0, []api.Call{count}), request(0, 0, count)), 2, [][]api.Reply{{{}}}},
	}
	for _, x := range tests {
		y := isSettled(t, x.name, x.m, x.want)
		for n, c := range y.Clients {
			if !slices.Equal(c.Got, x.got[n]) {
				t.Errorf("%s: client %d heard %v, not %v", x.name, n, c.Got, x.got[n])
			}
		}
	}
}

// TestSettleIdle: of one that is idle nothing is done any more, whatever is left to do.
func TestSettleIdle(t *testing.T) {
	m := taken(sent(0, []api.Call{put7, get7}), request(0, 0, put7), api.Write{At: 1, N: 7})
	m.Clients[0].Box = [][]byte{[]byte("zap")}
	for _, at := range []int{2, 3, math.MaxInt} {
		m.Clients[0].At = at
		for _, x := range []api.Machine{m, felled(m, 1)} {
			is(t, "idle", isSettled(t, "idle", x, 0), x)
		}
	}
}

// TestMaxRounds: there are that many, and no more.
func TestMaxRounds(t *testing.T) {
	// One look ends two rounds behind the one in which the server stands up.
	for pause := api.MaxRounds - 5; pause < api.MaxRounds+5; pause++ {
		m := felled(made([]api.Call{get7}), pause)
		y := isSettled(t, fmt.Sprint("down for ", pause), m, min(pause+2, api.MaxRounds))
		if heard := len(y.Clients[0].Got) == 1; heard != (pause+2 <= api.MaxRounds) {
			t.Errorf("down for %d: %v", pause, y)
		}
	}
	lost := sent(0, []api.Call{get7})
	lost.Server.Box = nil
	is(t, "what was sent is lost", isSettled(t, "what was sent is lost", lost, api.MaxRounds), lost)
}

// One put, and one look, and a fall: 5 is heard.
func TestPutAndLookAndFall(t *testing.T) {
	steps := []api.Step{goes(0), serves, serves, serves, serves, serves, goes(0), goes(0), serves, fall}
	for n := range len(steps) {
		// Wherever it falls.
		m := played(t, [][]api.Call{{put7, get7}}, append(slices.Clone(steps[:n]), fall))
		y, _ := Settle(m)
		if !slices.Equal(y.Clients[0].Got, []api.Reply{{}, {N: 5}}) {
			t.Errorf("it fell behind %d steps: %v is heard", n, y.Clients[0].Got)
		}
		if now := look.Now(y); !slices.Equal(now, []api.Write{{At: 7, N: 5}}) {
			t.Errorf("it fell behind %d steps: %v is there", n, now)
		}
	}
}

// everyStep has the steps that may change a machine.
func everyStep() []api.Step { return []api.Step{goes(0), goes(1), goes(2), serves, fall, tick} }

// isAnswered: all are answered, each call is done once, and nothing wrong is seen; a round is what its steps are, and nobody falls in it.
func isAnswered(t *testing.T, m api.Machine) {
	t.Helper()
	steps := []api.Step{tick}
	for n := range m.Clients {
		steps = append(steps, goes(n))
	}
	is(t, "a round", Round(m), after(m, append(steps, serves)...))
	y, rounds := Settle(m)
	if !look.Idle(y) || !look.Whole(y) || y.Falls != m.Falls || rounds >= api.MaxRounds {
		t.Errorf("%v: behind %d rounds it is %v", m, rounds, y)
	}
	if again, more := Settle(Round(m)); !look.Idle(m) && (more != rounds-1 || !same(again, y)) {
		t.Errorf("%v: %d rounds, and one round later %d", m, rounds, more)
	}
	for n, c := range y.Clients {
		past, told := look.Past(y, n)
		if c.At != len(c.Calls) || len(past) != len(c.Calls) || !slices.Equal(c.Got, told) {
			t.Errorf("%v: client %d heard %v, and %v was done", m, n, c.Got, past)
		}
	}
}

// TestAllAreAnswered: wherever steps have brought a machine.
func TestAllAreAnswered(t *testing.T) {
	seen := map[string]bool{}
	for l := []api.Machine{made([]api.Call{put7, drop7}, []api.Call{less2}), made([]api.Call{put7}, []api.Call{get7}, []api.Call{count})}; len(l) > 0; l = l[1:] {
		isAnswered(t, l[0])
		if t.Failed() {
			return
		}
		for _, s := range everyStep() {
			x := after(l[0], s)
			if key := fmt.Sprint(x); !seen[key] && x.Falls <= 1 {
				seen[key] = true
				l = append(l, x)
			}
		}
	}
}

// dice has numbers that hang on the seed alone.
type dice struct{ seed uint }

func (d *dice) pick(n int) int {
	d.seed = d.seed*1664525 + 1013904223
	return int(d.seed >> 8 & 0xffff % uint(n))
}

func (d *dice) call() api.Call {
	name, n := 1+d.pick(4), d.pick(90)-30
	switch kind := 1 + d.pick(6); kind {
	case api.CallCount:
		return count
	case api.CallPut, api.CallAdd:
		return api.Call{Kind: kind, Name: name, N: n}
	case api.CallSwap:
		return api.Call{Kind: kind, Name: name, Other: 1 + d.pick(4)}
	default:
		return api.Call{Kind: kind, Name: name}
	}
}

func (d *dice) calls(most int) []api.Call {
	var out []api.Call
	for range d.pick(most + 1) {
		out = append(out, d.call())
	}
	return out
}

func (d *dice) steps() []api.Step {
	var out []api.Step
	for range d.pick(api.MaxSteps + 1) {
		switch n := d.pick(20); {
		case n == 0:
			out = append(out, fall)
		case n < 4:
			out = append(out, tick)
		case n == 4:
			out = append(out, api.Step{Kind: d.pick(9) - 2, N: d.pick(9) - 2})
		case n < 12:
			out = append(out, goes(n%api.MaxClients))
		default:
			out = append(out, serves)
		}
	}
	return out
}

// TestPlayStepByStep: played at once is as one by one, and all are answered at last.
func TestPlayStepByStep(t *testing.T) {
	for seed := range 100 {
		d := &dice{uint(seed)}
		l := [][]api.Call{d.calls(api.MaxCalls), d.calls(api.MaxCalls), d.calls(api.MaxCalls)}
		steps := d.steps()
		m, told, err := Play(l, steps)
		isErr(t, "right calls", err, api.OK)
		x := made(l...)
		for i, s := range steps {
			x, err = machine.Do(x, s)
			isErr(t, fmt.Sprint("run ", seed, ", step ", i), told[i], err)
		}
		is(t, fmt.Sprint("run ", seed), m, x)
		isAnswered(t, m)
	}
}

// TestAlone: one client alone hears what it would have heard one by one, and nothing else lasts, however often the server falls.
func TestAlone(t *testing.T) {
	falls := 0
	for seed := range 200 {
		d := &dice{uint(seed)}
		l := make([][]api.Call, 1+d.pick(api.MaxClients))
		me := d.pick(len(l))
		l[me] = d.calls(api.MaxCalls)
		y, _ := Settle(played(t, l, d.steps()))
		var names []api.Write
		for i, c := range l[me] {
			var says api.Reply
			names, says = model.Do(names, c)
			if got := y.Clients[me].Got[i]; got != says {
				t.Errorf("run %d: of call %d %v is heard, not %v", seed, i, got, says)
			}
		}
		if now := look.Now(y); !slices.Equal(now, names) {
			t.Errorf("run %d: %v is there, not %v", seed, now, names)
		}
		falls += y.Falls
	}
	if falls == 0 {
		t.Error("nobody fell")
	}
}

// TestMost: the most that there can be to do ends early enough.
func TestMost(t *testing.T) {
	var calls []api.Call
	for range api.MaxCalls / 2 {
		calls = append(calls, put7, drop7)
	}
	l := [][]api.Call{calls, calls, calls}
	for _, steps := range [][]api.Step{nil, {goes(0), goes(1), goes(2)}, {goes(0), serves, serves, serves, serves, fall}} {
		isAnswered(t, played(t, l, steps))
	}
}

// all is a machine, lists of calls, steps, and what is told.
type all struct {
	M api.Machine
	L [][]api.Call
	S []api.Step
	T []api.Errno
	N int
	E api.Errno
}

func isAll(t *testing.T, what string, got, want all) {
	t.Helper()
	is(t, what, got.M, want.M)
	isErr(t, what, got.E, want.E)
	if !slices.Equal(got.T, want.T) || got.N != want.N {
		t.Errorf("%s: %v and %d are told, not %v and %d", what, got.T, got.N, want.T, want.N)
	}
}

// givens are machines that are idle or not, and what is played, right or wrong.
func givens() map[string]all {
	l := [][]api.Call{{put7, less2, swap79}, {}, {get7}}
	run := []api.Step{goes(0), goes(2), serves, serves, serves, fall, tick, goes(0), serves, {}}
	busy := after(made(l...), run[:5]...)
	idle, _ := Settle(busy)
	return map[string]all{
		"none":           {},
		"new":            {M: made(l...), L: l},
		"busy":           {M: busy, L: l, S: run},
		"answered":       {M: after(busy, serves, serves), L: l, S: run[:3]},
		"down":           {M: after(busy, fall), L: [][]api.Call{{noName}}, S: run},
		"idle":           {M: idle, L: make([][]api.Call, api.MaxClients+1), S: run},
		"idle, and down": {M: after(idle, fall), L: l, S: slices.Repeat(run, api.MaxSteps)},
		"idle, and busy": {M: with(busy, func(m *api.Machine) { m.Clients[0].At, m.Clients[2].At = 3, 1 })},
	}
}

func changes() map[string]func(all) all {
	return map[string]func(all) all{
		"Play": func(x all) all {
			m, told, err := Play(x.L, x.S)
			return all{M: m, T: told, E: err}
		},
		"Round": func(x all) all { return all{M: Round(x.M)} },
		"Settle": func(x all) all {
			m, n := Settle(x.M)
			return all{M: m, N: n}
		},
	}
}

// fresh copies without the program, so that a wrong copy there is seen; behind each list comes room, with entries that must neither change nor be looked at.
func fresh(v reflect.Value, room int) reflect.Value {
	out := reflect.New(v.Type()).Elem()
	switch v.Kind() {
	case reflect.Struct:
		for i := range v.NumField() {
			out.Field(i).Set(fresh(v.Field(i), room))
		}
	case reflect.Slice:
		l := reflect.MakeSlice(v.Type(), v.Len()+room, v.Len()+room)
		for i := range l.Len() {
			if i < v.Len() {
				l.Index(i).Set(fresh(v.Index(i), room))
			} else {
				l.Index(i).Set(junk(v.Type().Elem()))
			}
		}
		out.Set(l.Slice(0, v.Len()))
	default:
		out.Set(v)
	}
	return out
}

func junk(t reflect.Type) reflect.Value {
	out := reflect.New(t).Elem()
	switch t.Kind() {
	case reflect.Struct:
		for i := range t.NumField() {
			out.Field(i).Set(junk(t.Field(i).Type))
		}
	case reflect.Slice:
		out.Set(reflect.Append(out, junk(t.Elem())))
	case reflect.Bool:
		out.SetBool(true)
	case reflect.Int:
		out.SetInt(6)
	case reflect.Uint8:
		out.SetUint('q')
	}
	return out
}

func copied(x all, room int) all { return fresh(reflect.ValueOf(x), room).Interface().(all) }

// lists answers all lists of v, with the room behind them; those inside of others come first.
func lists(v reflect.Value) []reflect.Value {
	var out []reflect.Value
	switch v.Kind() {
	case reflect.Struct:
		for i := range v.NumField() {
			out = append(out, lists(v.Field(i))...)
		}
	case reflect.Slice:
		l := v.Slice(0, v.Cap())
		for i := range l.Len() {
			out = append(out, lists(l.Index(i))...)
		}
		out = append(out, l)
	}
	return out
}

func listsOf(x all) []reflect.Value { return lists(reflect.ValueOf(&x).Elem()) }

// told tells all lists, with the room behind them.
func told(x all) string {
	var out []string
	for _, l := range listsOf(x) {
		out = append(out, fmt.Sprint(l))
	}
	return strings.Join(out, "; ")
}

// wipe changes all entries of all lists, and those behind them.
func wipe(x all) {
	for _, l := range listsOf(x) {
		for i := range l.Len() {
			l.Index(i).SetZero()
		}
	}
}

// apart: no two lists share memory.
func apart(t *testing.T, what string, l []reflect.Value) {
	t.Helper()
	end := func(v reflect.Value) uintptr { return v.Pointer() + uintptr(v.Len())*v.Type().Elem().Size() }
	for i, a := range l {
		for _, b := range l[:i] {
			if a.Pointer() < end(b) && b.Pointer() < end(a) {
				t.Errorf("%s: %v and %v share memory", what, a, b)
			}
		}
	}
}

// TestOnlyReads: what is handed in stays, with its spare room, nothing of it is kept, and each list that is answered is the caller's alone.
func TestOnlyReads(t *testing.T) {
	for kind, given := range givens() {
		for name, do := range changes() {
			what := name + ", " + kind
			want := do(copied(given, 0))
			handed := copied(given, 5)
			before := told(handed)
			got := do(handed)
			isAll(t, what+" with room behind", got, want)
			if now := told(handed); now != before {
				t.Errorf("%s: what was handed in is %s, not %s", what, now, before)
			}
			apart(t, what, append(listsOf(got), listsOf(handed)...))
			wipe(handed)
			isAll(t, what+", when what was handed in is changed", got, want)
		}
	}
}

// TestNilAndEmpty: lists without entries are the same, whichever they are.
func TestNilAndEmpty(t *testing.T) {
	for _, up := range []bool{false, true} {
		m := made(nil, []api.Call{get7}, nil)
		m.Up, m.Pause = up, 1
		m.Clients[0].Box = [][]byte{nil}
		for _, x := range []all{{M: m, L: [][]api.Call{nil, {get7}, nil}}, {M: api.Machine{Up: up}}} {
			for name, do := range changes() {
				isAll(t, name, do(copied(x, 0)), do(x))
			}
		}
	}
}

// TestSameAgain: what is answered hangs on what is handed in alone.
func TestSameAgain(t *testing.T) {
	for kind, given := range givens() {
		for name, do := range changes() {
			want := do(given)
			for range 5 {
				isAll(t, name+", "+kind+", again", do(given), want)
			}
		}
	}
}

// TestWrongMachines: L1 does not speak of these; nothing may panic, and all ends.
func TestWrongMachines(t *testing.T) {
	edges := []int{math.MinInt, -1, 0, 1, 2, 3, 11, 255, math.MaxInt}
	for _, x := range edges {
		for n := range 4 {
			for i := range 8 {
				m := made([]api.Call{put7, less2}, []api.Call{get7})
				m.Store.Cells = slices.Repeat([]int{x}, n*4)
				m.Store.Undo = []api.Write{{At: x, N: x}, {At: n, N: x}}
				m.Store.Past = []api.Request{request(x, x, api.Call{Kind: x, Name: x, Other: x, N: x})}
				m.Store.Answers = []api.Answer{{Client: x, Token: x, Reply: api.Reply{Err: api.Errno(x), N: x}}, {Token: x}}
				m.Server.Gen, m.Server.Busy, m.Server.Now = x, i&1 > 0, request(x, x, api.Call{Kind: n, Name: x, Other: x, N: x})
				m.Server.Box = slices.Repeat([][]byte{asked(0, n, swap79), nil, asked(x, x, put7)}, n)
				m.Falls, m.Up, m.Pause = x, i&2 > 0, x
				m.Clients[0].At, m.Clients[0].Sent, m.Clients[1].Gen = x, i&4 > 0, x
				m.Clients[1].Calls = []api.Call{{Kind: x, Name: x, Other: x, N: x}}
				m.Clients = slices.Repeat(m.Clients, n)
				Round(m)
				y, rounds := Settle(m)
				if !look.Idle(y) && rounds != api.MaxRounds {
					t.Fatalf("%v: behind %d rounds it is %v", m, rounds, y)
				}
			}
		}
	}
}
