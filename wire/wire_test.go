package wire

import (
	"bytes"
	"math"
	"slices"
	"testing"

	"mendkernel/api"
	"mendkernel/model"
)

const (
	most = api.MaxNum
	last = api.MaxName
)

// edges are numbers that are no client, token, kind, name or errno, though the lowest byte of some of them would be one.
func edges() []int { return []int{math.MinInt, -256, -1, 256, 257, 1 << 32, math.MaxInt} }

// requests are right ones beside their bytes.
func requests() []struct {
	r api.Request
	b []byte
} {
	return []struct {
		r api.Request
		b []byte
	}{
		{api.Request{Call: api.Call{Kind: api.CallCount}}, []byte{'q', 0, 0, 5, 0, 0, 0, 0, 0, 0}},
		{api.Request{Client: 2, Token: 7, Call: api.Call{Kind: api.CallPut, Name: last, N: -5}}, []byte{'q', 2, 7, 1, 255, 0, 255, 255, 255, 251}},
		{api.Request{Client: 1, Token: 3, Call: api.Call{Kind: api.CallPut, Name: 1, N: most}}, []byte{'q', 1, 3, 1, 1, 0, 64, 0, 0, 0}},
		{api.Request{Token: 1, Call: api.Call{Kind: api.CallAdd, Name: 128, N: -most}}, []byte{'q', 0, 1, 4, 128, 0, 192, 0, 0, 0}},
		{api.Request{Token: 2, Call: api.Call{Kind: api.CallAdd, Name: 9, N: 0x01020304}}, []byte{'q', 0, 2, 4, 9, 0, 1, 2, 3, 4}},
		{api.Request{Token: 2, Call: api.Call{Kind: api.CallAdd, Name: 9, N: -1}}, []byte{'q', 0, 2, 4, 9, 0, 255, 255, 255, 255}},
		{api.Request{Token: 4, Call: api.Call{Kind: api.CallGet, Name: 7}}, []byte{'q', 0, 4, 2, 7, 0, 0, 0, 0, 0}},
		{api.Request{Client: 1, Call: api.Call{Kind: api.CallDrop, Name: 7}}, []byte{'q', 1, 0, 3, 7, 0, 0, 0, 0, 0}},
		{api.Request{Client: 1, Token: 7, Call: api.Call{Kind: api.CallSwap, Name: 3, Other: last}}, []byte{'q', 1, 7, 6, 3, 255, 0, 0, 0, 0}},
	}
}

// answers are right ones beside their bytes.
func answers() []struct {
	a api.Answer
	b []byte
} {
	return []struct {
		a api.Answer
		b []byte
	}{
		{api.Answer{}, []byte{'a', 0, 0, 0, 0, 0, 0, 0}},
		{api.Answer{Client: 2, Token: 7, Reply: api.Reply{N: -9}}, []byte{'a', 2, 7, 0, 255, 255, 255, 247}},
		{api.Answer{Client: 1, Token: 3, Reply: api.Reply{N: most}}, []byte{'a', 1, 3, 0, 64, 0, 0, 0}},
		{api.Answer{Token: 1, Reply: api.Reply{N: -most}}, []byte{'a', 0, 1, 0, 192, 0, 0, 0}},
		{api.Answer{Token: 1, Reply: api.Reply{N: 0x01020304}}, []byte{'a', 0, 1, 0, 1, 2, 3, 4}},
		{api.Answer{Client: 2, Reply: api.Reply{Err: api.ErrKind}}, []byte{'a', 2, 0, 1, 0, 0, 0, 0}},
		{api.Answer{Token: 7, Reply: api.Reply{Err: api.ErrWait}}, []byte{'a', 0, 7, 12, 0, 0, 0, 0}},
	}
}

func TestRequest(t *testing.T) {
	for _, p := range requests() {
		if e := WrongRequest(p.r); e != api.OK {
			t.Errorf("%v is wrong: %d", p.r, e)
		}
		if b := Request(p.r); !bytes.Equal(b, p.b) {
			t.Errorf("Request(%v) is %v, not %v", p.r, b, p.b)
		}
		if r, e := ReadRequest(p.b); r != p.r || e != api.OK {
			t.Errorf("ReadRequest(%v) is %v, %d, not %v", p.b, r, e, p.r)
		}
	}
}

func TestAnswer(t *testing.T) {
	for _, p := range answers() {
		if e := WrongAnswer(p.a); e != api.OK {
			t.Errorf("%v is wrong: %d", p.a, e)
		}
		if b := Answer(p.a); !bytes.Equal(b, p.b) {
			t.Errorf("Answer(%v) is %v, not %v", p.a, b, p.b)
		}
		if a, e := ReadAnswer(p.b); a != p.a || e != api.OK {
			t.Errorf("ReadAnswer(%v) is %v, %d, not %v", p.b, a, e, p.a)
		}
	}
}

// TestTurns: of clients and tokens just those below their limits are right, of requests and of answers.
func TestTurns(t *testing.T) {
	some := append(edges(), 0, 1, 2, 3, 4, 6, 7, 8, 9, 255)
	for _, client := range some {
		for _, token := range some {
			want := api.ErrRange
			if client >= 0 && client <= 2 && token >= 0 && token <= 7 {
				want = api.OK
			}
			if e := WrongRequest(api.Request{Client: client, Token: token, Call: api.Call{Kind: api.CallCount}}); e != want {
				t.Errorf("a request of %d, %d: %d, not %d", client, token, e, want)
			}
			if e := WrongAnswer(api.Answer{Client: client, Token: token}); e != want {
				t.Errorf("an answer of %d, %d: %d, not %d", client, token, e, want)
			}
		}
	}
}

func TestWrongRequestOfCalls(t *testing.T) {
	tests := []struct {
		name string
		r    api.Request
		want api.Errno
	}{
		{"no kind", api.Request{}, api.ErrKind},
		{"a kind above the kinds", api.Request{Call: api.Call{Kind: 7, Name: 1}}, api.ErrKind},
		{"a kind whose lowest byte is one", api.Request{Call: api.Call{Kind: 256 + api.CallGet, Name: 1}}, api.ErrKind},
		{"no name", api.Request{Call: api.Call{Kind: api.CallGet}}, api.ErrName},
		{"a name above the names", api.Request{Call: api.Call{Kind: api.CallGet, Name: last + 1}}, api.ErrName},
		{"a name of count", api.Request{Call: api.Call{Kind: api.CallCount, Name: 1}}, api.ErrName},
		{"no other of swap", api.Request{Call: api.Call{Kind: api.CallSwap, Name: 1}}, api.ErrName},
		{"an other of get", api.Request{Call: api.Call{Kind: api.CallGet, Name: 1, Other: 1}}, api.ErrName},
		{"a number that is too large", api.Request{Call: api.Call{Kind: api.CallPut, Name: 1, N: most + 1}}, api.ErrRange},
		{"a number that is too small", api.Request{Call: api.Call{Kind: api.CallAdd, Name: 1, N: -most - 1}}, api.ErrRange},
		{"a number of swap", api.Request{Call: api.Call{Kind: api.CallSwap, Name: 1, Other: 2, N: 1}}, api.ErrRange},
		{"a client, ahead of a kind", api.Request{Client: 3}, api.ErrRange},
		{"a token, ahead of a kind", api.Request{Token: 8}, api.ErrRange},
		{"a client, ahead of a name", api.Request{Client: -1, Call: api.Call{Kind: api.CallGet}}, api.ErrRange},
		{"a token, ahead of a name", api.Request{Token: -1, Call: api.Call{Kind: api.CallGet}}, api.ErrRange},
	}
	for _, x := range tests {
		if e := WrongRequest(x.r); e != x.want {
			t.Errorf("%s: %d, not %d", x.name, e, x.want)
		}
	}
}

// TestReplies: of an answer without an error each number that may be had is right; beside an error only 0.
func TestReplies(t *testing.T) {
	numbers := append(edges(), 0, 1, most-1, most, most+1, 1-most, -most, -most-1)
	for err := range 15 {
		for _, n := range numbers {
			want := api.ErrRange
			if err == 0 && n >= -most && n <= most || err >= 1 && err <= 12 && n == 0 {
				want = api.OK
			}
			if e := WrongAnswer(api.Answer{Reply: api.Reply{Err: api.Errno(err), N: n}}); e != want {
				t.Errorf("%d beside the error %d: %d, not %d", n, err, e, want)
			}
		}
	}
	for _, err := range edges() {
		if e := WrongAnswer(api.Answer{Reply: api.Reply{Err: api.Errno(err)}}); e != api.ErrRange {
			t.Errorf("the error %d: %d", err, e)
		}
	}
}

// everyRequest hands on each right request at the edges of all that it has.
func everyRequest(do func(api.Request)) {
	names := []int{0, 1, 2, 127, 128, last}
	numbers := []int{-most, -65536, -257, -256, -1, 0, 1, 255, 256, 65535, 1 << 24, most}
	for client := range api.MaxClients {
		for token := range api.MaxCalls {
			for kind := range 8 {
				for _, name := range names {
					for _, other := range names {
						for _, n := range numbers {
							c := api.Call{Kind: kind, Name: name, Other: other, N: n}
							if model.Wrong(c) == api.OK {
								do(api.Request{Client: client, Token: token, Call: c})
							}
						}
					}
				}
			}
		}
	}
}

// everyAnswer hands on each right answer at the edges of all that it has.
func everyAnswer(do func(api.Answer)) {
	numbers := []int{-most, -65536, -257, -256, -1, 0, 1, 255, 256, 65535, 1 << 24, most}
	for client := range api.MaxClients {
		for token := range api.MaxCalls {
			for _, n := range numbers {
				do(api.Answer{Client: client, Token: token, Reply: api.Reply{N: n}})
			}
			for err := api.ErrKind; err <= api.ErrWait; err++ {
				do(api.Answer{Client: client, Token: token, Reply: api.Reply{Err: err}})
			}
		}
	}
}

// TestThereAndBack: read again, each is the same; what is unlike looks unlike, and no request looks like an answer.
func TestThereAndBack(t *testing.T) {
	seen := map[string]bool{}
	told := 0
	everyRequest(func(r api.Request) {
		b := Request(r)
		if got, e := ReadRequest(b); len(b) != 10 || got != r || e != api.OK {
			t.Errorf("%v is %v, and that %v, %d", r, b, got, e)
		}
		if a, e := ReadAnswer(b); a != (api.Answer{}) || e != api.ErrForm {
			t.Errorf("%v is the answer %v, %d", b, a, e)
		}
		seen[string(b)] = true
		told++
	})
	everyAnswer(func(a api.Answer) {
		b := Answer(a)
		if got, e := ReadAnswer(b); len(b) != 8 || got != a || e != api.OK {
			t.Errorf("%v is %v, and that %v, %d", a, b, got, e)
		}
		if r, e := ReadRequest(b); r != (api.Request{}) || e != api.ErrForm {
			t.Errorf("%v is the request %v, %d", b, r, e)
		}
		seen[string(b)] = true
		told++
	})
	if want := 3 * 8 * (5*12*2 + 5*2 + 1 + 5*5 + 12 + 12); told != want || len(seen) != want {
		t.Errorf("%d have %d looks, not %d", told, len(seen), want)
	}
}

// TestLengths: b is as long as it must be, whatever stands in it, or in the room behind it.
func TestLengths(t *testing.T) {
	for _, first := range []byte{'q', 'a', 'Q', 0} {
		b := make([]byte, 20)
		b[0], b[3] = first, api.CallCount
		for n := range len(b) {
			want := api.ErrForm
			if n == 10 && first == 'q' {
				want = api.OK
			}
			if _, e := ReadRequest(b[:n]); e != want {
				t.Errorf("%d bytes that begin with %q as a request: %d, not %d", n, first, e, want)
			}
		}
		b[3] = byte(api.ErrNone)
		for n := range len(b) {
			want := api.ErrForm
			if n == 8 && first == 'a' {
				want = api.OK
			}
			if _, e := ReadAnswer(b[:n]); e != want {
				t.Errorf("%d bytes that begin with %q as an answer: %d, not %d", n, first, e, want)
			}
		}
	}
	if r, e := ReadRequest(nil); r != (api.Request{}) || e != api.ErrForm {
		t.Errorf("nil as a request: %v, %d", r, e)
	}
	if a, e := ReadAnswer(nil); a != (api.Answer{}) || e != api.ErrForm {
		t.Errorf("nil as an answer: %v, %d", a, e)
	}
}

func TestReadRequestErrors(t *testing.T) {
	tests := []struct {
		b    []byte
		want api.Errno
	}{
		{[]byte{'a', 0, 0, 5, 0, 0, 0, 0, 0, 0}, api.ErrForm},
		{[]byte{'q', 3, 0, 5, 0, 0, 0, 0, 0, 0}, api.ErrRange},
		{[]byte{'q', 255, 0, 5, 0, 0, 0, 0, 0, 0}, api.ErrRange},
		{[]byte{'q', 0, 8, 5, 0, 0, 0, 0, 0, 0}, api.ErrRange},
		{[]byte{'q', 0, 8, 0, 0, 0, 0, 0, 0, 0}, api.ErrRange},
		{[]byte{'q', 0, 0, 0, 0, 0, 0, 0, 0, 0}, api.ErrKind},
		{[]byte{'q', 0, 0, 7, 1, 0, 0, 0, 0, 0}, api.ErrKind},
		{[]byte{'q', 0, 0, 255, 1, 0, 0, 0, 0, 0}, api.ErrKind},
		{[]byte{'q', 0, 0, 5, 1, 0, 0, 0, 0, 0}, api.ErrName},
		{[]byte{'q', 0, 0, 2, 0, 0, 0, 0, 0, 1}, api.ErrName},
		{[]byte{'q', 0, 0, 2, 7, 7, 0, 0, 0, 0}, api.ErrName},
		{[]byte{'q', 0, 0, 6, 7, 0, 0, 0, 0, 0}, api.ErrName},
		{[]byte{'q', 0, 0, 5, 0, 0, 0, 0, 0, 1}, api.ErrRange},
		{[]byte{'q', 0, 0, 2, 7, 0, 255, 255, 255, 255}, api.ErrRange},
		{[]byte{'q', 0, 0, 1, 7, 0, 64, 0, 0, 1}, api.ErrRange},
		{[]byte{'q', 0, 0, 1, 7, 0, 191, 255, 255, 255}, api.ErrRange},
		{[]byte{'q', 0, 0, 1, 7, 0, 127, 255, 255, 255}, api.ErrRange},
		{[]byte{'q', 0, 0, 4, 7, 0, 128, 0, 0, 0}, api.ErrRange},
	}
	for _, x := range tests {
		if r, e := ReadRequest(x.b); r != (api.Request{}) || e != x.want {
			t.Errorf("ReadRequest(%v) is %v, %d, not %d", x.b, r, e, x.want)
		}
	}
}

func TestReadAnswerErrors(t *testing.T) {
	tests := []struct {
		b    []byte
		want api.Errno
	}{
		{[]byte{'q', 0, 0, 0, 0, 0, 0, 0}, api.ErrForm},
		{[]byte{'A', 3, 0, 0, 0, 0, 0, 0}, api.ErrForm},
		{[]byte{'a', 3, 0, 0, 0, 0, 0, 0}, api.ErrRange},
		{[]byte{'a', 0, 8, 0, 0, 0, 0, 0}, api.ErrRange},
		{[]byte{'a', 0, 0, 13, 0, 0, 0, 0}, api.ErrRange},
		{[]byte{'a', 0, 0, 255, 0, 0, 0, 0}, api.ErrRange},
		{[]byte{'a', 0, 0, 1, 0, 0, 0, 1}, api.ErrRange},
		{[]byte{'a', 0, 0, 12, 255, 255, 255, 255}, api.ErrRange},
		{[]byte{'a', 0, 0, 0, 64, 0, 0, 1}, api.ErrRange},
		{[]byte{'a', 0, 0, 0, 191, 255, 255, 255}, api.ErrRange},
		{[]byte{'a', 0, 0, 0, 127, 255, 255, 255}, api.ErrRange},
		{[]byte{'a', 0, 0, 0, 128, 0, 0, 0}, api.ErrRange},
	}
	for _, x := range tests {
		if a, e := ReadAnswer(x.b); a != (api.Answer{}) || e != x.want {
			t.Errorf("ReadAnswer(%v) is %v, %d, not %d", x.b, a, e, x.want)
		}
	}
}

// TestOneLookEach has every byte of right ones be every other: what is read is right, and looks just so; else it is nothing.
func TestOneLookEach(t *testing.T) {
	for _, p := range requests() {
		for i := range p.b {
			for n := range 256 {
				b := slices.Clone(p.b)
				b[i] = byte(n)
				r, e := ReadRequest(b)
				if e == api.OK && (WrongRequest(r) != api.OK || !bytes.Equal(Request(r), b)) || e != api.OK && r != (api.Request{}) {
					t.Errorf("ReadRequest(%v) is %v, %d", b, r, e)
				}
			}
		}
	}
	for _, p := range answers() {
		for i := range p.b {
			for n := range 256 {
				b := slices.Clone(p.b)
				b[i] = byte(n)
				a, e := ReadAnswer(b)
				if e == api.OK && (WrongAnswer(a) != api.OK || !bytes.Equal(Answer(a), b)) || e != api.OK && a != (api.Answer{}) {
					t.Errorf("ReadAnswer(%v) is %v, %d", b, a, e)
				}
			}
		}
	}
}

// TestWrongOnesAsBytes: E1 says nothing of those but how many bytes there are, and what the first one is; nothing may panic.
func TestWrongOnesAsBytes(t *testing.T) {
	for _, n := range edges() {
		b := Request(api.Request{Client: n, Token: n, Call: api.Call{Kind: n, Name: n, Other: n, N: n}})
		if len(b) != 10 || b[0] != 'q' {
			t.Errorf("a request of %d: %v", n, b)
		}
		b = Answer(api.Answer{Client: n, Token: n, Reply: api.Reply{Err: api.Errno(n), N: n}})
		if len(b) != 8 || b[0] != 'a' {
			t.Errorf("an answer of %d: %v", n, b)
		}
	}
}

// TestReadOnlyReads: bytes stay, with the room behind them.
func TestReadOnlyReads(t *testing.T) {
	for _, p := range requests() {
		all := append(slices.Clone(p.b), 'q', 1, 2, 3)
		kept := slices.Clone(all)
		ReadRequest(all[:10])
		ReadAnswer(all[:8])
		if !bytes.Equal(all, kept) {
			t.Errorf("%v are %v now", kept, all)
		}
	}
	for _, p := range answers() {
		all := append(slices.Clone(p.b), 'a', 1, 2, 3)
		kept := slices.Clone(all)
		ReadRequest(all[:10])
		ReadAnswer(all[:8])
		if !bytes.Equal(all, kept) {
			t.Errorf("%v are %v now", kept, all)
		}
	}
}

// TestBytesAreTheCallers: changed, with the room behind them, they are the same when they are asked for again.
func TestBytesAreTheCallers(t *testing.T) {
	for _, p := range requests() {
		b := Request(p.r)
		clear(b[:cap(b)])
		if again := Request(p.r); !bytes.Equal(again, p.b) {
			t.Errorf("Request(%v) is %v again, not %v", p.r, again, p.b)
		}
	}
	for _, p := range answers() {
		b := Answer(p.a)
		clear(b[:cap(b)])
		if again := Answer(p.a); !bytes.Equal(again, p.b) {
			t.Errorf("Answer(%v) is %v again, not %v", p.a, again, p.b)
		}
	}
}
