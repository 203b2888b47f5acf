package text

import (
	"math"
	"slices"
	"strconv"
	"strings"
	"testing"

	"mendkernel/api"
	"mendkernel/model"
)

const (
	most = api.MaxNum
	last = api.MaxName
)

// pairs are right calls beside their texts.
func pairs() []struct {
	c api.Call
	s string
} {
	return []struct {
		c api.Call
		s string
	}{
		{api.Call{Kind: api.CallPut, Name: 7, N: -5}, "put 7 -5"},
		{api.Call{Kind: api.CallPut, Name: 1, N: most}, "put 1 1073741824"},
		{api.Call{Kind: api.CallPut, Name: last, N: -most}, "put 255 -1073741824"},
		{api.Call{Kind: api.CallPut, Name: 10, N: 0}, "put 10 0"},
		{api.Call{Kind: api.CallGet, Name: 1}, "get 1"},
		{api.Call{Kind: api.CallGet, Name: last}, "get 255"},
		{api.Call{Kind: api.CallDrop, Name: 7}, "drop 7"},
		{api.Call{Kind: api.CallAdd, Name: 7, N: 12}, "add 7 12"},
		{api.Call{Kind: api.CallAdd, Name: 100, N: -most}, "add 100 -1073741824"},
		{api.Call{Kind: api.CallCount}, "count"},
		{api.Call{Kind: api.CallSwap, Name: 7, Other: 8}, "swap 7 8"},
		{api.Call{Kind: api.CallSwap, Name: last, Other: 1}, "swap 255 1"},
		{api.Call{Kind: api.CallSwap, Name: 3, Other: 3}, "swap 3 3"},
	}
}

func TestCall(t *testing.T) {
	for _, p := range pairs() {
		if s := Call(p.c); s != p.s {
			t.Errorf("Call(%v) is %q, not %q", p.c, s, p.s)
		}
	}
}

func TestReadCall(t *testing.T) {
	for _, p := range pairs() {
		if c, err := ReadCall(p.s); c != p.c || err != api.OK {
			t.Errorf("ReadCall(%q) is %v, %v, not %v", p.s, c, err, p.c)
		}
	}
}

// TestCallReadAgain takes every kind with every right value at an edge: written and read again, it is the same, and no two have one text.
func TestCallReadAgain(t *testing.T) {
	names := []int{0, 1, 2, 9, 10, 99, 100, last - 1, last}
	numbers := []int{-most, -10, -1, 0, 1, 9, 10, most}
	seen := map[string]api.Call{}
	for kind := range 8 {
		for _, name := range names {
			for _, other := range names {
				for _, n := range numbers {
					c := api.Call{Kind: kind, Name: name, Other: other, N: n}
					if model.Wrong(c) != api.OK {
						continue
					}
					s := Call(c)
					if back, err := ReadCall(s); back != c || err != api.OK {
						t.Errorf("%v is %q, and that %v, %v", c, s, back, err)
					}
					if d, ok := seen[s]; ok {
						t.Errorf("%v and %v are %q", c, d, s)
					}
					seen[s] = c
				}
			}
		}
	}
	if len(seen) != 8*8*2+8*2+1+8*8 {
		t.Errorf("there are %d right calls", len(seen))
	}
}

// TestCallWrong: nothing is promised of those but that nothing panics.
func TestCallWrong(t *testing.T) {
	for _, kind := range []int{math.MinInt, -1, 0, 1, 2, 3, 4, 5, 6, 7, math.MaxInt} {
		for _, n := range []int{math.MinInt, -1, 0, 1, math.MaxInt} {
			c := api.Call{Kind: kind, Name: n, Other: n, N: n}
			Call(c)
			Print([]api.Call{c, c})
		}
	}
}

func TestReadCallErrors(t *testing.T) {
	for err, texts := range map[api.Errno][]string{
		api.ErrKind: {"", " ", " count", "  ", "zap", "zap 1", "PUT 1 2", "Count", "counts", "coun", "put\t1 2", "put\n1 2", "count\n", "count\r", "1", "-1", "5", "\x00", "cöunt", "swap\u00a07 8", " put 0 x"},
		api.ErrForm: {
			"count ", "count 0", "count 1", "count  ",
			"get", "get ", "get 7 ", "get  7", "get 7 8", "get 7 8 9", "get x", "get 7x", "get x 7 8",
			"drop", "drop ", "drop 7 8", "drop 1 2 3 4 5",
			"put", "put ", "put 1", "put 1 ", "put  1", "put  2 1", "put 1 2 3", "put 1 2 ", "put 1 2 3 4 5 6 7", "put 1  2",
			"add", "add 7", "add 7 8 9", "add 7 1.0", "add 7 1e3", "add 7 0x1", "add 7 1_0", "add 7 --1", "add 7 - 1", "add 7 -",
			"swap", "swap 7", "swap 7 8 9", "swap 7 8 ",
			"put 01 2", "put 1 02", "put 1 -02", "put 1 -0", "put 1 00", "put 1 +2", "put +1 2", "put 1 +0", "get 00", "swap 7 08", "swap 7 +8",
			"put 1 2\n", "put 1 2\r", "put 1 2\t", "put 1 \t2", "put 1\n2 3", "get \u0667", "get \xff",
			"get 99999999999999999999", "get -99999999999999999999", "put 1 9223372036854775808", "put 1 -9223372036854775809",
			"put 0 x", "put 256 01", "put 0 1 2", "get 0 0", "swap 0 x", "count 99999999999999999999",
		},
		api.ErrName: {
			"get 0", "get -1", "get 256", "get 9223372036854775807", "get -9223372036854775808",
			"drop 0", "drop 256", "put 0 2", "put 256 2", "put -1 2", "add 0 0", "add 256 0",
			"swap 0 1", "swap 1 0", "swap 256 1", "swap 1 256", "swap 0 0", "swap 1 -1",
			"put 0 1073741825", "add 256 9223372036854775807",
		},
		api.ErrRange: {
			"put 1 1073741825", "put 1 -1073741825", "add 255 1073741825", "add 1 -1073741825",
			"put 1 9223372036854775807", "add 1 -9223372036854775808",
		},
	} {
		for _, s := range texts {
			if c, got := ReadCall(s); c != (api.Call{}) || got != err {
				t.Errorf("ReadCall(%q) is %v, %v, not %v", s, c, got, err)
			}
		}
	}
}

// TestNumber holds every short word against those that numbers are written as.
func TestNumber(t *testing.T) {
	written := map[string]int{}
	for n := -99; n <= 999; n++ {
		written[strconv.Itoa(n)] = n
	}
	letters := strings.Split("0 1 2 9 + - . _ x e a \t", " ")
	words := []string{""}
	for range 3 {
		for _, w := range slices.Clone(words) {
			for _, l := range letters {
				words = append(words, w+l)
			}
		}
	}
	for _, w := range words {
		n, right := number(w)
		want, ok := written[w]
		if right != ok || right && n != want {
			t.Errorf("number(%q) is %d, %v", w, n, right)
		}
	}
}

func TestPrint(t *testing.T) {
	var l []api.Call
	var want string
	for _, p := range pairs() {
		if s := Print(l); s != want {
			t.Errorf("Print(%v) is %q, not %q", l, s, want)
		}
		l = append(l, p.c)
		want += p.s + "\n"
	}
	if s := Print([]api.Call{}); s != "" {
		t.Errorf("Print of none is %q", s)
	}
}

// TestPrintReads: what is handed in stays, with its spare room.
func TestPrintReads(t *testing.T) {
	all := []api.Call{{Kind: api.CallCount}, {Kind: api.CallAdd, Name: 7, N: -2}, {Kind: api.CallGet, Name: 9}}
	kept := slices.Clone(all)
	if s := Print(all[:2:3]); s != "count\nadd 7 -2\n" {
		t.Errorf("Print is %q", s)
	}
	if !slices.Equal(all, kept) {
		t.Errorf("behind Print there is %v, not %v", all, kept)
	}
}

func TestParse(t *testing.T) {
	l, err := Parse("count\nput 7 -5\n")
	want := []api.Call{{Kind: api.CallCount}, {Kind: api.CallPut, Name: 7, N: -5}}
	if !slices.Equal(l, want) || err != api.OK {
		t.Errorf("Parse is %v, %v, not %v", l, err, want)
	}
	if l, err := Parse(""); len(l) != 0 || err != api.OK {
		t.Errorf("Parse of nothing is %v, %v", l, err)
	}
}

// TestParseReadAgain: as many as may be, one behind the other, are the same again.
func TestParseReadAgain(t *testing.T) {
	var all []api.Call
	for _, p := range pairs() {
		all = append(all, p.c)
	}
	for from := range all {
		for to := from; to <= len(all); to++ {
			l, err := Parse(Print(all[from:to]))
			if to-from > api.MaxCalls {
				if len(l) != 0 || err != api.ErrMany {
					t.Errorf("Parse of %d is %v, %v", to-from, l, err)
				}
			} else if !slices.Equal(l, all[from:to]) || err != api.OK {
				t.Errorf("Parse is %v, %v, not %v", l, err, all[from:to])
			}
		}
	}
}

func TestParseErrors(t *testing.T) {
	many := strings.Repeat("count\n", api.MaxCalls)
	for err, texts := range map[api.Errno][]string{
		api.ErrEnd: {
			" ", "count", "zap", "put", "get 0", "count\ncount", "count\nzap", "count\n ", "count\r",
			many + "count", many + "zap", many + many + "x",
		},
		api.ErrKind: {
			"\n", "\n\n", "count\n\n", "\ncount\n", "\ncount", " \n", "zap\n", "zap\nput\n", "zap\ncount", "count\r\n", "count\n count\n",
			many + "\n", many + "zap\n", many + many + "zap\n", "zap\n" + many + many,
		},
		api.ErrForm:  {"count \n", "put 1\n", "put 1\nzap\n", "get\nget", "put 1 02\nget 0\n", many + "count\nget\n", "get 7\r\n"},
		api.ErrName:  {"get 0\n", "get 0\nzap\n", "get 256\ncount", many + many + "swap 1 0\n"},
		api.ErrRange: {"add 1 1073741825\n", "count\nput 1 -1073741825\nzap", many + "count\nput 1 1073741825\n"},
		api.ErrMany:  {many + "count\n", many + many, strings.Repeat(many, 100)},
	} {
		for _, s := range texts {
			if l, got := Parse(s); len(l) != 0 || got != err {
				t.Errorf("Parse(%q) is %v, %v, not %v", s, l, got, err)
			}
		}
	}
	if l, err := Parse(many); len(l) != api.MaxCalls || err != api.OK {
		t.Errorf("Parse of as many as may be is %v, %v", l, err)
	}
}

// TestParseNew: what was answered is the caller's: it may be changed, and the next answer is the same.
func TestParseNew(t *testing.T) {
	l, _ := Parse("count\nget 7\n")
	l[0], l[1] = l[1], api.Call{}
	again, _ := Parse("count\nget 7\n")
	if want := []api.Call{{Kind: api.CallCount}, {Kind: api.CallGet, Name: 7}}; !slices.Equal(again, want) {
		t.Errorf("Parse is %v, not %v", again, want)
	}
}
