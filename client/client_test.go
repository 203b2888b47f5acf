package client

import (
	"bytes"
	"fmt"
	"math"
	"reflect"
	"slices"
	"strings"
	"testing"

	"mendkernel/api"
	"mendkernel/guard"
	"mendkernel/model"
	"mendkernel/serve"
	"mendkernel/store"
	"mendkernel/wire"
)

var (
	put7   = api.Call{Kind: api.CallPut, Name: 7, N: -5}
	get7   = api.Call{Kind: api.CallGet, Name: 7}
	swap79 = api.Call{Kind: api.CallSwap, Name: 7, Other: 9}
	count  = api.Call{Kind: api.CallCount}
)

var none = api.Reply{Err: api.ErrNone}

func said(client, token int, says api.Reply) []byte {
	return wire.Answer(api.Answer{Client: client, Token: token, Reply: says})
}

// calling is a client that was not heard at all yet.
func calling() api.Client { return api.Client{Calls: []api.Call{put7, get7, swap79}} }

// waiting is a client whose call 1 was sent to generation 4.
func waiting(box ...[]byte) api.Client {
	c := calling()
	c.At, c.Sent, c.Gen, c.Box = 1, true, 4, box
	c.Got = []api.Reply{{N: 3}}
	return c
}

// heard is what becomes of waiting when it hears that reply.
func heard(says api.Reply, box ...[]byte) api.Client {
	c := waiting(box...)
	c.At, c.Sent = 2, false
	c.Got = append(c.Got, says)
	return c
}

// ended is a client that made all its calls.
func ended() api.Client {
	c := calling()
	c.At, c.Gen = 3, 4
	c.Got = []api.Reply{{N: 3}, none, {N: 1}}
	return c
}

func same(a, b api.Client) bool {
	return slices.Equal(a.Calls, b.Calls) && a.At == b.At && a.Sent == b.Sent && a.Gen == b.Gen &&
		slices.EqualFunc(a.Box, b.Box, bytes.Equal) && slices.Equal(a.Got, b.Got)
}

func is(t *testing.T, what string, got, want api.Client) {
	t.Helper()
	if !same(got, want) {
		t.Errorf("%s: the client is %v, not %v", what, got, want)
	}
}

func isSent(t *testing.T, what string, b []byte, err api.Errno, want []byte, wantErr api.Errno) {
	t.Helper()
	if !bytes.Equal(b, want) || err != wantErr {
		t.Errorf("%s: %v and %d, not %v and %d", what, b, err, want, wantErr)
	}
}

// TestCome: bytes come last, while there is room; behind that they are lost.
func TestCome(t *testing.T) {
	for _, c := range []api.Client{{}, calling(), waiting(), ended()} {
		for n := range api.MaxBox + 3 {
			b := slices.Repeat([]byte{byte(n)}, n)
			want := c
			if n < api.MaxBox {
				want.Box = append(slices.Clone(c.Box), b)
			}
			c = Come(c, b)
			is(t, "bytes came", c, want)
		}
	}
	over := waiting(slices.Repeat([][]byte{{1}}, api.MaxBox+2)...)
	is(t, "too many came", Come(over, []byte{2}), over)
}

// TestHear: the answer that it waits for, whatever that says, and whichever generation says it, and whether that is up or not.
func TestHear(t *testing.T) {
	more := said(1, 2, api.Reply{N: 8})
	replies := []api.Reply{{}, {N: 6}, {N: -api.MaxNum}, {N: api.MaxNum}, none, {Err: api.ErrWait}}
	for _, says := range replies {
		for _, gen := range []int{0, 4, 5} {
			for _, up := range []bool{false, true} {
				c, b, err := Go(waiting(said(1, 1, says)), 1, gen, up)
				is(t, "heard", c, heard(says))
				isSent(t, "heard", b, err, nil, api.OK)
				c, b, err = Go(waiting(said(1, 1, says), more), 1, gen, up)
				is(t, "heard, and more came", c, heard(says, more))
				isSent(t, "heard, and more came", b, err, nil, api.OK)
			}
		}
	}
}

// TestHearEveryClient: of every number, and of every call up to the last one.
func TestHearEveryClient(t *testing.T) {
	for me := range api.MaxClients {
		for at := range api.MaxCalls {
			c := api.Client{Calls: slices.Repeat([]api.Call{count}, api.MaxCalls), At: at, Sent: true}
			c.Got = slices.Repeat([]api.Reply{none}, at)
			for n := range api.MaxClients {
				for token := range api.MaxCalls {
					given, want := c, c
					given.Box = [][]byte{said(n, token, api.Reply{N: 2})}
					if n == me && token == at {
						want.At, want.Sent = at+1, false
						want.Got = append(slices.Clone(c.Got), api.Reply{N: 2})
					}
					got, b, err := Go(given, me, 0, true)
					is(t, "an answer came", got, want)
					isSent(t, "an answer came", b, err, nil, api.OK)
				}
			}
		}
	}
}

// strange are bytes that are not what waiting waits for.
func strange() map[string][]byte {
	right := said(1, 1, api.Reply{N: 6})
	with := func(at int, x byte) []byte {
		out := slices.Clone(right)
		out[at] = x
		return out
	}
	return map[string][]byte{
		"another's":           said(0, 1, api.Reply{N: 6}),
		"the other one's":     said(2, 1, api.Reply{N: 6}),
		"an earlier call's":   said(1, 0, api.Reply{N: 6}),
		"a later call's":      said(1, 2, api.Reply{N: 6}),
		"a request":           wire.Request(api.Request{Client: 1, Token: 1, Call: get7}),
		"nothing":             nil,
		"no bytes":            {},
		"no answer":           []byte("zap"),
		"an answer's begin":   right[:7],
		"more than an answer": append(slices.Clone(right), 0),
		"another begin":       with(0, 'q'),
		"no such client":      with(1, api.MaxClients),
		"no such token":       with(2, api.MaxCalls),
		"no such error":       with(3, byte(api.ErrWait)+1),
		"an error, and 6":     with(3, byte(api.ErrNone)),
		"too large":           with(4, 0x40),
		"too small":           with(4, 0x80),
	}
}

// TestNobodyElsesAnswerIsHeard: what is not waited for goes, and nothing else changes, nor is anything sent.
func TestNobodyElsesAnswerIsHeard(t *testing.T) {
	more := said(1, 1, api.Reply{N: 8})
	for name, x := range strange() {
		for _, gen := range []int{4, 5} {
			for _, up := range []bool{false, true} {
				c, b, err := Go(waiting(x), 1, gen, up)
				is(t, name, c, waiting())
				isSent(t, name, b, err, nil, api.OK)
				c, b, err = Go(waiting(x, more), 1, gen, up)
				is(t, name+", and more", c, waiting(more))
				isSent(t, name+", and more", b, err, nil, api.OK)
			}
		}
	}
}

// TestWrongBytesAreNotHeard: not even by client 0 in its first call, whose answer has noughts where wrong bytes have nothing.
func TestWrongBytesAreNotHeard(t *testing.T) {
	for name, x := range strange() {
		given := sentTo(calling(), 4)
		given.Box = [][]byte{x}
		if _, err := wire.ReadAnswer(x); err == api.OK {
			continue
		}
		c, b, err := Go(given, 0, 4, true)
		is(t, name, c, sentTo(calling(), 4))
		isSent(t, name, b, err, nil, api.OK)
	}
}

// TestNotSent: who sent nothing hears nothing, and who made all calls has no more to hear.
func TestNotSent(t *testing.T) {
	tests := map[string]api.Client{"calling": calling(), "ended": ended(), "no calls": {}}
	for name, c := range tests {
		given := c
		given.Box = [][]byte{said(1, c.At, api.Reply{N: 6})}
		for _, up := range []bool{false, true} {
			got, b, err := Go(given, 1, 4, up)
			is(t, name, got, c)
			isSent(t, name, b, err, nil, api.OK)
		}
	}
}

// TestSend: the call that is next, of every kind, if it was not sent, or to another generation.
func TestSend(t *testing.T) {
	calls := []api.Call{
		put7, get7, {Kind: api.CallDrop, Name: api.MaxName}, {Kind: api.CallAdd, Name: 1, N: api.MaxNum},
		count, swap79, {Kind: api.CallPut, Name: 1, N: -api.MaxNum}, get7,
	}
	for me := range api.MaxClients {
		for at, call := range calls {
			want := wire.Request(api.Request{Client: me, Token: at, Call: call})
			c := api.Client{Calls: calls, At: at, Got: slices.Repeat([]api.Reply{{N: 2}}, at)}
			for _, gen := range []int{0, 1, api.MaxFalls} {
				after := c
				after.Sent, after.Gen = true, gen
				for _, before := range []api.Client{c, sentTo(c, gen+1), sentTo(c, gen-1), notSentTo(c, gen)} {
					got, b, err := Go(before, me, gen, true)
					is(t, "sent", got, after)
					isSent(t, "sent", b, err, want, api.OK)
				}
			}
		}
	}
}

func sentTo(c api.Client, gen int) api.Client {
	c.Sent, c.Gen = true, gen
	return c
}

func notSentTo(c api.Client, gen int) api.Client {
	c.Sent, c.Gen = false, gen
	return c
}

// TestBytesOfARequest: as chapter 5 writes them.
func TestBytesOfARequest(t *testing.T) {
	_, b, _ := Go(calling(), 2, 3, true)
	isSent(t, "put", b, api.OK, []byte{'q', 2, 0, 1, 7, 0, 255, 255, 255, 251}, api.OK)
	_, b, _ = Go(waiting(), 1, 5, true)
	isSent(t, "get", b, api.OK, []byte{'q', 1, 1, 2, 7, 0, 0, 0, 0, 0}, api.OK)
}

// TestSilent: beside an error all is as it was; the first error that fits is told.
func TestSilent(t *testing.T) {
	tests := []struct {
		name string
		c    api.Client
		gen  int
		up   bool
		want api.Errno
	}{
		{"ended", ended(), 5, true, api.ErrDone},
		{"ended, and down", ended(), 5, false, api.ErrDone},
		{"ended, of that generation", ended(), 4, true, api.ErrDone},
		{"ended, and sent", sentTo(ended(), 4), 4, false, api.ErrDone},
		{"no calls", api.Client{}, 0, true, api.ErrDone},
		{"no calls, and down", api.Client{}, 0, false, api.ErrDone},
		{"down", calling(), 0, false, api.ErrDead},
		{"sent, and down", waiting(), 4, false, api.ErrDead},
		{"sent to another one, and down", waiting(), 5, false, api.ErrDead},
		{"sent", waiting(), 4, true, api.ErrWait},
		{"sent to the first one", sentTo(calling(), 0), 0, true, api.ErrWait},
	}
	for _, x := range tests {
		c, b, err := Go(x.c, 1, x.gen, x.up)
		is(t, x.name, c, x.c)
		isSent(t, x.name, b, err, nil, x.want)
	}
}

// What is sent to another generation is the same.
func TestAgainTheSame(t *testing.T) {
	for _, c := range []api.Client{calling(), waiting()} {
		c, first, err := Go(c, 1, 7, true)
		isSent(t, "the first time", first, err, first, api.OK)
		for gen := 8; gen < 12; gen++ {
			x, b, err := Go(c, 1, gen, true)
			isSent(t, "again", b, err, first, api.OK)
			is(t, "again", x, sentTo(c, gen))
			y, b, err := Go(x, 1, gen, true)
			isSent(t, "too soon", b, err, nil, api.ErrWait)
			is(t, "too soon", y, x)
			c = x
		}
	}
}

// TestHeardOnce: an answer that is said several times is heard once, and the next call is made.
func TestHeardOnce(t *testing.T) {
	b := said(1, 1, api.Reply{N: 6})
	c := waiting(b, b, b)
	for range 3 {
		c, _, _ = Go(c, 1, 4, true)
	}
	is(t, "heard", c, heard(api.Reply{N: 6}))
	c, sent, err := Go(c, 1, 4, true)
	isSent(t, "the next call", sent, err, wire.Request(api.Request{Client: 1, Token: 2, Call: swap79}), api.OK)
	c, _, _ = Go(Come(c, b), 1, 4, true)
	is(t, "the next call", c, sentTo(heard(api.Reply{N: 6}), 4))
}

// world is a machine by hand, since chapter 10 comes behind this one.
type world struct {
	m    api.Machine
	seed uint
}

// pick is a number below n, that hangs on the seed alone.
func (w *world) pick(n int) int {
	w.seed = w.seed*1664525 + 1013904223
	return int(w.seed >> 8 & 0xffff % uint(n))
}

func newWorld(seed int) *world {
	w := &world{m: api.Machine{Store: store.New(), Up: true}, seed: uint(seed)}
	for range api.MaxClients {
		c := api.Client{}
		for range 1 + w.pick(api.MaxCalls) {
			c.Calls = append(c.Calls, w.call())
		}
		w.m.Clients = append(w.m.Clients, c)
	}
	return w
}

func (w *world) call() api.Call {
	name, n := 1+w.pick(4), w.pick(90)-30
	switch kind := 1 + w.pick(6); kind {
	case api.CallCount:
		return count
	case api.CallPut, api.CallAdd:
		return api.Call{Kind: kind, Name: name, N: n}
	case api.CallSwap:
		return api.Call{Kind: kind, Name: name, Other: 1 + w.pick(4)}
	default:
		return api.Call{Kind: kind, Name: name}
	}
}

// clientGoes: what found no room was not sent.
func (w *world) clientGoes(me int) {
	c, b, err := Go(w.m.Clients[me], me, w.m.Server.Gen, w.m.Up)
	if err != api.OK {
		return
	}
	if len(b) > 0 {
		v, err := serve.Come(w.m.Server, b)
		if err != api.OK {
			return
		}
		w.m.Server = v
	}
	w.m.Clients[me] = c
}

func (w *world) serverGoes() {
	if !w.m.Up {
		return
	}
	s, v, b, _ := serve.Go(w.m.Store, w.m.Server)
	w.m.Store, w.m.Server = s, v
	if a, err := wire.ReadAnswer(b); err == api.OK {
		w.m.Clients[a.Client] = Come(w.m.Clients[a.Client], b)
	}
}

// noise has bytes come that nobody waits for.
func (w *world) noise() {
	me := w.pick(api.MaxClients)
	l := [][]byte{[]byte("zap"), nil, said((me+1)%api.MaxClients, w.pick(api.MaxCalls), api.Reply{N: 77})}
	w.m.Clients[me] = Come(w.m.Clients[me], l[w.pick(len(l))])
}

func (w *world) step() {
	switch w.pick(40) {
	case 0:
		w.m, _ = guard.Fall(w.m)
	case 1, 2, 3, 4:
		w.m = guard.Tick(w.m)
	case 5:
		w.noise()
	default:
		if x := w.pick(api.MaxClients + 2); x < api.MaxClients {
			w.clientGoes(x)
		} else {
			w.serverGoes()
		}
	}
}

func (w *world) ended() bool {
	for _, c := range w.m.Clients {
		if c.At < len(c.Calls) {
			return false
		}
	}
	return true
}

// TestAsIfNobodyHadEverFallen: whatever falls, each call is done once, in turn, and its client hears what the model tells.
func TestAsIfNobodyHadEverFallen(t *testing.T) {
	falls := 0
	for seed := range 300 {
		w := newWorld(seed)
		for n := 0; !w.ended(); n++ {
			if n == 5000 {
				t.Fatalf("world %d does not end: %v", seed, w.m)
			}
			w.step()
		}
		falls += w.m.Falls
		_, told := model.All(w.m.Store.Past)
		for me, c := range w.m.Clients {
			var calls []api.Call
			var replies []api.Reply
			for i, r := range w.m.Store.Past {
				if r.Client == me {
					calls, replies = append(calls, r.Call), append(replies, told[i])
				}
			}
			if !slices.Equal(calls, c.Calls) || !slices.Equal(replies, c.Got) {
				t.Fatalf("world %d, client %d: %v were done, not %v; %v were heard, not %v", seed, me, calls, c.Calls, c.Got, replies)
			}
		}
	}
	if falls == 0 {
		t.Error("nobody fell")
	}
}

// all is a client, and bytes: those that come, or those that are sent.
type all struct {
	C api.Client
	B []byte
}

func isAll(t *testing.T, what string, got, want all) {
	t.Helper()
	is(t, what, got.C, want.C)
	if !bytes.Equal(got.B, want.B) {
		t.Errorf("%s: %v, not %v", what, got.B, want.B)
	}
}

// givens are clients of every kind of step; what came is beside them.
func givens() map[string]all {
	b := said(1, 1, api.Reply{N: 6})
	return map[string]all{
		"none":           {},
		"calls":          {calling(), b},
		"waits":          {waiting(), b},
		"waits, and no":  {waiting(), nil},
		"hears":          {waiting(b, []byte("zap")), b},
		"does not hear":  {waiting([]byte("zap"), b), b},
		"full":           {waiting([]byte("zap"), b, b), b},
		"calls another":  {sentTo(calling(), 3), []byte("zap")},
		"made all calls": {ended(), b},
	}
}

func deeds() map[string]func(all) all {
	goes := func(up bool) func(all) all {
		return func(x all) all {
			c, b, _ := Go(x.C, 1, 4, up)
			return all{c, b}
		}
	}
	return map[string]func(all) all{
		"Come":     func(x all) all { return all{C: Come(x.C, x.B)} },
		"Go":       goes(true),
		"Go, down": goes(false),
	}
}

// fresh copies without the program, so that a wrong copy there is seen; behind each list comes room, with entries that must neither change nor be looked at.
func fresh(v reflect.Value, room int) reflect.Value {
	out := reflect.New(v.Type()).Elem()
	switch v.Kind() {
	case reflect.Struct:
		for i := range v.NumField() {
			out.Field(i).Set(fresh(v.Field(i), room))
		}
	case reflect.Slice:
		l := reflect.MakeSlice(v.Type(), v.Len()+room, v.Len()+room)
		for i := range l.Len() {
			if i < v.Len() {
				l.Index(i).Set(fresh(v.Index(i), room))
			} else {
				l.Index(i).Set(junk(v.Type().Elem()))
			}
		}
		out.Set(l.Slice(0, v.Len()))
	default:
		out.Set(v)
	}
	return out
}

func junk(t reflect.Type) reflect.Value {
	out := reflect.New(t).Elem()
	switch t.Kind() {
	case reflect.Struct:
		for i := range t.NumField() {
			out.Field(i).Set(junk(t.Field(i).Type))
		}
	case reflect.Slice:
		out.Set(reflect.Append(out, junk(t.Elem())))
	case reflect.Bool:
		out.SetBool(true)
	case reflect.Int:
		out.SetInt(6)
	case reflect.Uint8:
		out.SetUint('a')
	}
	return out
}

func copied(x all, room int) all { return fresh(reflect.ValueOf(x), room).Interface().(all) }

// lists answers all lists of v, with the room behind them; those inside of others come first.
func lists(v reflect.Value) []reflect.Value {
	var out []reflect.Value
	switch v.Kind() {
	case reflect.Struct:
		for i := range v.NumField() {
			out = append(out, lists(v.Field(i))...)
		}
	case reflect.Slice:
		l := v.Slice(0, v.Cap())
		for i := range l.Len() {
			out = append(out, lists(l.Index(i))...)
		}
		out = append(out, l)
	}
	return out
}

func listsOf(x all) []reflect.Value { return lists(reflect.ValueOf(&x).Elem()) }

// told tells all lists, with the room behind them.
func told(x all) string {
	var out []string
	for _, l := range listsOf(x) {
		out = append(out, fmt.Sprint(l))
	}
	return strings.Join(out, "; ")
}

// wipe changes all entries of all lists, and those behind them.
func wipe(x all) {
	for _, l := range listsOf(x) {
		for i := range l.Len() {
			l.Index(i).SetZero()
		}
	}
}

// apart: no two lists share memory.
func apart(t *testing.T, what string, l []reflect.Value) {
	t.Helper()
	end := func(v reflect.Value) uintptr { return v.Pointer() + uintptr(v.Len())*v.Type().Elem().Size() }
	for i, a := range l {
		for _, b := range l[:i] {
			if a.Pointer() < end(b) && b.Pointer() < end(a) {
				t.Errorf("%s: %v and %v share memory", what, a, b)
			}
		}
	}
}

// TestOnlyReads: what is handed in stays, with its spare room, nothing of it is kept, and each list that is answered is the caller's alone.
func TestOnlyReads(t *testing.T) {
	for kind, given := range givens() {
		for name, do := range deeds() {
			what := name + ", " + kind
			want := do(copied(given, 0))
			handed := copied(given, 5)
			before := told(handed)
			got := do(handed)
			isAll(t, what+" with room behind", got, want)
			if now := told(handed); now != before {
				t.Errorf("%s: what was handed in is %s, not %s", what, now, before)
			}
			apart(t, what, append(listsOf(got), listsOf(handed)...))
			wipe(handed)
			isAll(t, what+", when what was handed in is changed", got, want)
		}
	}
}

// TestNilAndEmpty: lists without entries are the same, whichever they are.
func TestNilAndEmpty(t *testing.T) {
	for _, c := range []api.Client{{}, {Sent: true, Gen: 4}, {Box: [][]byte{nil}}, {Calls: []api.Call{get7}}} {
		none := all{C: c}
		for name, do := range deeds() {
			isAll(t, name, do(copied(none, 0)), do(none))
		}
	}
}

// TestWrongClients: I1 speaks of clients of machines only; of others nothing may panic, and where there is no call At none is sent.
func TestWrongClients(t *testing.T) {
	edges := []int{math.MinInt, -1, 0, 1, 2, 3, 8, 255, 256, math.MaxInt}
	for _, x := range edges {
		for _, at := range edges {
			c := api.Client{Calls: []api.Call{{Kind: x, Name: x, Other: x, N: x}, put7}, At: at, Sent: x > 0, Gen: x}
			c.Got = []api.Reply{{Err: api.Errno(x), N: x}}
			if at < 0 || at > 1 {
				got, b, err := Go(c, x, 9, true)
				is(t, "no such call", got, c)
				isSent(t, "no such call", b, err, nil, api.ErrDone)
			}
			c.Box = [][]byte{said(x, at, api.Reply{N: x}), nil}
			for _, me := range edges {
				got, _, _ := Go(Come(c, []byte{'a'}), me, x, true)
				for range 4 {
					got, _, _ = Go(got, me, x, true)
				}
			}
		}
	}
}
