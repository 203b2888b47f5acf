package guard

import (
	"bytes"
	"fmt"
	"math"
	"reflect"
	"slices"
	"strings"
	"testing"

	"mendkernel/api"
	"mendkernel/cell"
	"mendkernel/model"
	"mendkernel/plan"
	"mendkernel/serve"
	"mendkernel/store"
	"mendkernel/wire"
)

var (
	put7   = api.Call{Kind: api.CallPut, Name: 7, N: 5}
	put9   = api.Call{Kind: api.CallPut, Name: 9, N: -1}
	get7   = api.Call{Kind: api.CallGet, Name: 7}
	drop7  = api.Call{Kind: api.CallDrop, Name: 7}
	swap79 = api.Call{Kind: api.CallSwap, Name: 7, Other: 9}
)

func request(client, token int, c api.Call) api.Request {
	return api.Request{Client: client, Token: token, Call: c}
}

func asked(client, token int, c api.Call) []byte { return wire.Request(request(client, token, c)) }

// busy is a machine in the midst of a new name, 9, with one write done and two left.
func busy() api.Machine {
	s := api.Store{
		Cells:   cell.Set(cell.New(), []api.Write{{At: 0, N: 1}, {At: 1, N: 7}, {At: 2, N: 5}}),
		Answers: []api.Answer{{Client: 1, Token: 0}},
		Past:    []api.Request{request(1, 0, put7)},
	}
	return api.Machine{
		Store: store.Write(s, api.Write{At: 3, N: 9}),
		Server: api.Server{
			Gen:  1,
			Box:  [][]byte{asked(2, 0, get7), []byte("zap")},
			Busy: true,
			Now:  request(0, 0, put9),
			Plan: []api.Write{{At: 4, N: -1}, {At: 0, N: 2}},
			Says: api.Reply{N: 0},
		},
		Up:    true,
		Falls: 1,
		Clients: []api.Client{
			{Calls: []api.Call{put9, drop7}, Sent: true, Gen: 1},
			{Calls: []api.Call{put7}, Sent: true, Box: [][]byte{wire.Answer(api.Answer{Client: 1}), []byte("zap")}},
			{Calls: []api.Call{swap79, get7}, At: 1, Sent: true, Gen: 1, Got: []api.Reply{{Err: api.ErrNone}}},
		},
	}
}

// idle is a machine that nothing is asked of.
func idle() api.Machine { return api.Machine{Store: store.New(), Up: true} }

// down is busy's machine when its server fell, with the given pause.
func down(pause int) api.Machine {
	m := busy()
	m.Server = api.Server{Gen: m.Server.Gen}
	m.Up, m.Pause, m.Falls = false, pause, 2
	return m
}

func sameClient(a, b api.Client) bool {
	return slices.Equal(a.Calls, b.Calls) && a.At == b.At && a.Sent == b.Sent && a.Gen == b.Gen &&
		slices.EqualFunc(a.Box, b.Box, bytes.Equal) && slices.Equal(a.Got, b.Got)
}

func sameServer(a, b api.Server) bool {
	return a.Gen == b.Gen && slices.EqualFunc(a.Box, b.Box, bytes.Equal) && a.Busy == b.Busy &&
		a.Now == b.Now && slices.Equal(a.Plan, b.Plan) && a.Says == b.Says
}

func sameStore(a, b api.Store) bool {
	return slices.Equal(a.Cells, b.Cells) && slices.Equal(a.Undo, b.Undo) &&
		slices.Equal(a.Answers, b.Answers) && slices.Equal(a.Past, b.Past)
}

func same(a, b api.Machine) bool {
	return sameStore(a.Store, b.Store) && sameServer(a.Server, b.Server) && a.Up == b.Up &&
		a.Pause == b.Pause && a.Falls == b.Falls && slices.EqualFunc(a.Clients, b.Clients, sameClient)
}

func is(t *testing.T, what string, got, want api.Machine) {
	t.Helper()
	if !same(got, want) {
		t.Errorf("%s: the machine is %v, not %v", what, got, want)
	}
}

func isErr(t *testing.T, what string, got, want api.Errno) {
	t.Helper()
	if got != want {
		t.Errorf("%s: %d, not %d", what, got, want)
	}
}

func TestOwn(t *testing.T) {
	said := busy()
	said.Server.Says = api.Reply{Err: api.ErrFull, N: 3}
	for _, m := range []api.Machine{{}, idle(), busy(), said, down(1), down(3), {Clients: make([]api.Client, 9)}} {
		is(t, "a copy", Own(m), m)
		for _, c := range m.Clients {
			if got := OwnClient(c); !sameClient(got, c) {
				t.Errorf("a copy of a client: %v, not %v", got, c)
			}
		}
	}
}

func TestPause(t *testing.T) {
	tests := map[int]int{
		math.MinInt: 1, -7: 1, -1: 1, 0: 1, 1: 1, 2: 2, 3: 3,
		4: 3, api.MaxFalls: 3, api.MaxFalls + 1: 3, math.MaxInt: 3,
	}
	for falls, want := range tests {
		if got := Pause(falls); got != want {
			t.Errorf("%d falls: %d, not %d", falls, got, want)
		}
	}
}

// TestFall: what is in hand is lost, what is in the store lasts, done or not.
func TestFall(t *testing.T) {
	pauses := []int{1, 2, 3, 3, 3, 3}
	for _, given := range []api.Machine{idle(), busy()} {
		for falls := range api.MaxFalls {
			m := Own(given)
			m.Falls = falls
			want := Own(m)
			want.Falls, want.Up, want.Pause = falls+1, false, pauses[falls]
			want.Server = api.Server{Gen: m.Server.Gen}
			got, err := Fall(m)
			is(t, "it fell", got, want)
			isErr(t, "it fell", err, api.OK)
		}
	}
}

// TestFallRefused: beside an error all is as it was; a server that is down is told of ahead of how often it fell.
func TestFallRefused(t *testing.T) {
	often := func(m api.Machine, falls int) api.Machine {
		m.Falls = falls
		return m
	}
	tests := []struct {
		name string
		m    api.Machine
		want api.Errno
	}{
		{"down", down(1), api.ErrDone},
		{"down, a while yet", down(3), api.ErrDone},
		{"none", api.Machine{}, api.ErrDone},
		{"down, for the last time", often(down(2), api.MaxFalls), api.ErrDone},
		{"down, and more often than may be", often(down(2), math.MaxInt), api.ErrDone},
		{"up, behind the last fall", often(busy(), api.MaxFalls), api.ErrMany},
		{"up, idle, behind the last fall", often(idle(), api.MaxFalls), api.ErrMany},
		{"up, one more", often(busy(), api.MaxFalls+1), api.ErrMany},
		{"up, many more", often(busy(), math.MaxInt), api.ErrMany},
	}
	for _, x := range tests {
		got, err := Fall(x.m)
		is(t, x.name, got, x.m)
		isErr(t, x.name, err, x.want)
	}
}

// TestTickUp: to a server that is up a tick is nothing, whatever it has in hand, and its writes are not taken back.
func TestTickUp(t *testing.T) {
	fallen := busy()
	fallen.Falls = api.MaxFalls
	for _, m := range []api.Machine{idle(), busy(), fallen} {
		is(t, "up", Tick(m), m)
	}
}

func TestTickDown(t *testing.T) {
	for pause := 2; pause <= api.MaxPause; pause++ {
		is(t, "down", Tick(down(pause)), down(pause-1))
	}
	want := down(0)
	want.Up = true
	want.Server.Gen++
	want.Store.Cells = []int{1, 7, 5, 0, 0, 0, 0, 0, 0, 0, 0}
	want.Store.Undo = nil
	is(t, "the last tick", Tick(down(1)), want)
	odd := down(1)
	odd.Server = busy().Server
	is(t, "the last tick, of one that has something in hand", Tick(odd), want)
}

// TestTickTakesAllBack: several writes to one cell too.
func TestTickTakesAllBack(t *testing.T) {
	m := down(1)
	before := store.Back(m.Store)
	for _, w := range []api.Write{{At: 3, N: 8}, {At: 0, N: 5}, {At: 2, N: -9}, {At: 0, N: 4}} {
		m.Store = store.Write(m.Store, w)
	}
	if got := Tick(m).Store; !sameStore(got, before) {
		t.Errorf("the store is %v, not %v", got, before)
	}
}

// A server that falls for the first time is up again behind one tick.
func TestTheFirstFall(t *testing.T) {
	m, err := Fall(idle())
	isErr(t, "the first fall", err, api.OK)
	is(t, "the first fall", m, api.Machine{Store: store.New(), Pause: 1, Falls: 1})
	is(t, "one tick later", Tick(m), api.Machine{Store: store.New(), Server: api.Server{Gen: 1}, Up: true, Falls: 1})
}

// TestWhoFellStandsUpAgain: behind Pause ticks, each time, as another one; and behind the last fall it falls no more.
func TestWhoFellStandsUpAgain(t *testing.T) {
	m := idle()
	for falls := 1; falls <= api.MaxFalls; falls++ {
		x, err := Fall(m)
		isErr(t, "a fall", err, api.OK)
		for range Pause(falls) {
			if x.Up {
				t.Errorf("fall %d: it is up too soon", falls)
			}
			again, err := Fall(x)
			isErr(t, "a fall of one that is down", err, api.ErrDone)
			is(t, "a fall of one that is down", again, x)
			x = Tick(x)
		}
		is(t, "up again", x, api.Machine{Store: store.New(), Server: api.Server{Gen: falls}, Up: true, Falls: falls})
		m = Tick(Tick(x))
	}
	got, err := Fall(m)
	isErr(t, "once more", err, api.ErrMany)
	is(t, "once more", got, m)
}

// manyCalls has every kind, on names of which some come to be there.
func manyCalls() []api.Call {
	out := []api.Call{{Kind: api.CallCount}}
	for name := 1; name <= api.MaxEntries+2; name++ {
		out = append(out,
			api.Call{Kind: api.CallPut, Name: name, N: 10 * name},
			api.Call{Kind: api.CallPut, Name: api.MaxEntries + 3 - name, N: -name},
			api.Call{Kind: api.CallGet, Name: name},
			api.Call{Kind: api.CallDrop, Name: name},
			api.Call{Kind: api.CallAdd, Name: name, N: -3},
			api.Call{Kind: api.CallSwap, Name: name, Other: api.MaxEntries + 3 - name},
		)
	}
	return out
}

// standUp falls, and ticks until the server is up again.
func standUp(t *testing.T, m api.Machine) api.Machine {
	t.Helper()
	m, err := Fall(m)
	isErr(t, "a fall", err, api.OK)
	for range api.MaxPause {
		if !m.Up {
			m = Tick(m)
		}
	}
	if !m.Up {
		t.Fatal("it does not stand up")
	}
	return m
}

// ask has the server asked, and go on for so many steps, at most until it has nothing to do.
func ask(m api.Machine, b []byte, steps int) (api.Machine, []byte) {
	var said []byte
	m.Server, _ = serve.Come(m.Server, b)
	for range steps {
		s, v, x, err := serve.Go(m.Store, m.Server)
		if err != api.OK {
			break
		}
		m.Store, m.Server = s, v
		if len(x) > 0 {
			said = x
		}
	}
	return m, said
}

// TestNobodyLosesWhatWasDone: wherever a server falls, what was done is there, what was not is not, and asked again it is done once.
func TestNobodyLosesWhatWasDone(t *testing.T) {
	calls := manyCalls()
	for turn := range 200 {
		m := idle()
		for i := range api.MaxClients * api.MaxCalls {
			r := request(i%api.MaxClients, i/api.MaxClients, calls[(turn*turn+i*(turn+7))%len(calls)])
			_, says := plan.Make(m.Store.Cells, r.Call)
			if i%4 == turn%4 {
				before := store.Own(m.Store)
				done, _ := ask(m, wire.Request(r), (turn+i)%7)
				if len(done.Store.Past) > i {
					before = store.Own(done.Store)
				}
				m = standUp(t, done)
				is(t, "stood up", m, api.Machine{Store: before, Server: api.Server{Gen: m.Falls}, Up: true, Falls: m.Falls})
			}
			var said []byte
			m, said = ask(m, wire.Request(r), 9)
			want := wire.Answer(api.Answer{Client: r.Client, Token: r.Token, Reply: says})
			if !bytes.Equal(said, want) || len(m.Store.Past) != i+1 {
				t.Fatalf("%v: %v is said, not %v, behind %v", r, said, want, m.Store.Past)
			}
			names, _ := model.All(m.Store.Past)
			if !slices.Equal(model.Of(m.Store.Cells), names) || cell.Wrong(m.Store.Cells) != api.OK {
				t.Fatalf("behind %v: %v, not %v", r, m.Store.Cells, names)
			}
		}
	}
}

// TestClientsStay: a fall, and a tick, are nothing to clients.
func TestClientsStay(t *testing.T) {
	m := busy()
	x, _ := Fall(m)
	for range api.MaxPause {
		if !slices.EqualFunc(x.Clients, m.Clients, sameClient) {
			t.Errorf("the clients are %v, not %v", x.Clients, m.Clients)
		}
		x = Tick(x)
	}
}

// givens are machines of every kind of deed.
func givens() map[string]api.Machine {
	often := busy()
	often.Falls = api.MaxFalls
	odd := down(1)
	odd.Server = busy().Server
	return map[string]api.Machine{
		"none":                {},
		"idle":                idle(),
		"busy":                busy(),
		"often":               often,
		"down":                down(1),
		"down, a while yet":   down(2),
		"down, with its hand": odd,
	}
}

func deeds() map[string]func(api.Machine) api.Machine {
	return map[string]func(api.Machine) api.Machine{
		"Own": Own,
		"OwnClient": func(m api.Machine) api.Machine {
			out := api.Machine{}
			for _, c := range m.Clients {
				out.Clients = append(out.Clients, OwnClient(c))
			}
			return out
		},
		"Fall": func(m api.Machine) api.Machine {
			m, _ = Fall(m)
			return m
		},
		"Tick": Tick,
	}
}

// fresh copies without the program, so that a wrong copy there is seen; behind each list comes room, with entries that must neither change nor be looked at.
func fresh(v reflect.Value, room int) reflect.Value {
	out := reflect.New(v.Type()).Elem()
	switch v.Kind() {
	case reflect.Struct:
		for i := range v.NumField() {
			out.Field(i).Set(fresh(v.Field(i), room))
		}
	case reflect.Slice:
		l := reflect.MakeSlice(v.Type(), v.Len()+room, v.Len()+room)
		for i := range l.Len() {
			if i < v.Len() {
				l.Index(i).Set(fresh(v.Index(i), room))
			} else {
				l.Index(i).Set(junk(v.Type().Elem()))
			}
		}
		out.Set(l.Slice(0, v.Len()))
	default:
		out.Set(v)
	}
	return out
}

func junk(t reflect.Type) reflect.Value {
	out := reflect.New(t).Elem()
	switch t.Kind() {
	case reflect.Struct:
		for i := range t.NumField() {
			out.Field(i).Set(junk(t.Field(i).Type))
		}
	case reflect.Slice:
		out.Set(reflect.Append(out, junk(t.Elem())))
	case reflect.Bool:
		out.SetBool(true)
	case reflect.Int:
		out.SetInt(6)
	case reflect.Uint8:
		out.SetUint('q')
	}
	return out
}

func copied(m api.Machine, room int) api.Machine {
	return fresh(reflect.ValueOf(m), room).Interface().(api.Machine)
}

// lists answers all lists of v, with the room behind them; those inside of others come first.
func lists(v reflect.Value) []reflect.Value {
	var out []reflect.Value
	switch v.Kind() {
	case reflect.Struct:
		for i := range v.NumField() {
			out = append(out, lists(v.Field(i))...)
		}
	case reflect.Slice:
		l := v.Slice(0, v.Cap())
		for i := range l.Len() {
			out = append(out, lists(l.Index(i))...)
		}
		out = append(out, l)
	}
	return out
}

func listsOf(m api.Machine) []reflect.Value { return lists(reflect.ValueOf(&m).Elem()) }

// told tells all lists, with the room behind them.
func told(m api.Machine) string {
	var out []string
	for _, l := range listsOf(m) {
		out = append(out, fmt.Sprint(l))
	}
	return strings.Join(out, "; ")
}

// wipe changes all entries of all lists, and those behind them.
func wipe(m api.Machine) {
	for _, l := range listsOf(m) {
		for i := range l.Len() {
			l.Index(i).SetZero()
		}
	}
}

// apart: no two lists share memory.
func apart(t *testing.T, what string, l []reflect.Value) {
	t.Helper()
	end := func(v reflect.Value) uintptr { return v.Pointer() + uintptr(v.Len())*v.Type().Elem().Size() }
	for i, a := range l {
		for _, b := range l[:i] {
			if a.Pointer() < end(b) && b.Pointer() < end(a) {
				t.Errorf("%s: %v and %v share memory", what, a, b)
			}
		}
	}
}

// TestOnlyReads: what is handed in stays, with its spare room, nothing of it is kept, and each list that is answered is the caller's alone.
func TestOnlyReads(t *testing.T) {
	for kind, given := range givens() {
		for name, do := range deeds() {
			what := name + ", " + kind
			want := do(copied(given, 0))
			handed := copied(given, 5)
			before := told(handed)
			got := do(handed)
			is(t, what+" with room behind", got, want)
			if now := told(handed); now != before {
				t.Errorf("%s: what was handed in is %s, not %s", what, now, before)
			}
			apart(t, what, append(listsOf(got), listsOf(handed)...))
			wipe(handed)
			is(t, what+", when what was handed in is changed", got, want)
		}
	}
}

// TestNilAndEmpty: lists without entries are the same, whichever they are.
func TestNilAndEmpty(t *testing.T) {
	none := api.Machine{Clients: []api.Client{{}, {Box: [][]byte{nil}}}, Server: api.Server{Box: [][]byte{nil}}}
	for _, up := range []bool{false, true} {
		for pause := range 3 {
			none.Up, none.Pause = up, pause
			empty := copied(none, 0)
			for name, do := range deeds() {
				is(t, name, do(empty), do(none))
			}
		}
	}
}

// TestWrongMachines: H1 speaks of machines of chapter 10 only; of others nothing may panic.
func TestWrongMachines(t *testing.T) {
	edges := []int{math.MinInt, -1, 0, 1, 10, 11, math.MaxInt}
	for _, x := range edges {
		for n := range 14 {
			for _, up := range []bool{false, true} {
				for _, pause := range edges {
					m := busy()
					m.Store.Cells = slices.Repeat([]int{x}, n)
					m.Store.Undo = []api.Write{{At: x, N: x}, {At: n, N: x}}
					m.Server.Gen, m.Falls, m.Up, m.Pause = x, x, up, pause
					m.Clients = slices.Repeat(m.Clients, 3)
					for _, do := range deeds() {
						do(m)
					}
				}
			}
		}
	}
}
