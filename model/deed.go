package model

import "mendkernel/api"

// deed is what a call does: it may change the names that it is handed.
type deed func(l []api.Write) ([]api.Write, api.Reply)

// turn is what a call does with a name that is there: l[at].
type turn func(l []api.Write, at int) ([]api.Write, api.Reply)

func deedOf(c api.Call) deed {
	switch c.Kind {
	case api.CallCount:
		return count
	case api.CallPut:
		return put(c.Name, c.N)
	case api.CallGet:
		return there(c.Name, get)
	case api.CallDrop:
		return there(c.Name, drop)
	case api.CallAdd:
		return there(c.Name, add(c.N))
	case api.CallSwap:
		return there(c.Name, swap(c.Other))
	}
	return func(l []api.Write) ([]api.Write, api.Reply) { return refuse(l, api.ErrKind) }
}

func count(l []api.Write) ([]api.Write, api.Reply) { return tell(l, len(l)) }

func put(name, n int) deed {
	return func(l []api.Write) ([]api.Write, api.Reply) {
		at := find(l, name)
		if at >= 0 {
			had := l[at].N
			l[at].N = n
			return tell(l, had)
		}
		if len(l) >= api.MaxEntries {
			return refuse(l, api.ErrFull)
		}
		return tell(append(l, api.Write{At: name, N: n}), 0)
	}
}

// there has turns need not ask whether the name is there.
func there(name int, do turn) deed {
	return func(l []api.Write) ([]api.Write, api.Reply) {
		at := find(l, name)
		if at < 0 {
			return refuse(l, api.ErrNone)
		}
		return do(l, at)
	}
}

func get(l []api.Write, at int) ([]api.Write, api.Reply) { return tell(l, l[at].N) }

func drop(l []api.Write, at int) ([]api.Write, api.Reply) {
	had, last := l[at].N, len(l)-1
	l[at] = l[last]
	return tell(l[:last], had)
}

func add(n int) turn {
	return func(l []api.Write, at int) ([]api.Write, api.Reply) {
		sum := l[at].N + n
		if !within(sum, -api.MaxNum, api.MaxNum) {
			return refuse(l, api.ErrRange)
		}
		l[at].N = sum
		return tell(l, sum)
	}
}

func swap(other int) turn {
	return func(l []api.Write, at int) ([]api.Write, api.Reply) {
		o := find(l, other)
		if o < 0 {
			return refuse(l, api.ErrNone)
		}
		l[at].N, l[o].N = l[o].N, l[at].N
		return tell(l, l[at].N)
	}
}

func find(l []api.Write, name int) int {
	for i, w := range l {
		if w.At == name {
			return i
		}
	}
	return -1
}

func tell(l []api.Write, n int) ([]api.Write, api.Reply) { return l, api.Reply{N: n} }

// refuse answers the names too: beside an error they stay as they were.
func refuse(l []api.Write, e api.Errno) ([]api.Write, api.Reply) { return l, api.Reply{Err: e} }
