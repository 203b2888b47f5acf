package text

import (
	"strconv"

	"mendkernel/api"
)

// noKind is the kind of a word that is none.
const noKind = 0

// wordOf answers the word that a kind of call begins with.
func wordOf(kind int) string {
	switch kind {
	case api.CallPut:
		return "put"
	case api.CallGet:
		return "get"
	case api.CallDrop:
		return "drop"
	case api.CallAdd:
		return "add"
	case api.CallCount:
		return "count"
	case api.CallSwap:
		return "swap"
	}
	return ""
}

// kindOf answers the kind of call that begins with a word.
func kindOf(word string) int {
	for kind := api.CallPut; kind <= api.CallSwap; kind++ {
		if wordOf(kind) == word {
			return kind
		}
	}
	return noKind
}

// places answers where a call of its kind has its numbers, in the order of its text, so that writing and reading can't differ.
func places(c *api.Call) []*int {
	switch c.Kind {
	case api.CallPut, api.CallAdd:
		return []*int{&c.Name, &c.N}
	case api.CallGet, api.CallDrop:
		return []*int{&c.Name}
	case api.CallSwap:
		return []*int{&c.Name, &c.Other}
	}
	return nil
}

// fill has the numbers of words in places; false, if they are not as many, or one is no number.
func fill(places []*int, words []string) bool {
	if len(words) != len(places) {
		return false
	}
	for i, word := range words {
		n, right := number(word)
		if !right {
			return false
		}
		*places[i] = n
	}
	return true
}

// number reads a word that is just as the number would be written: so there is one text for each, without a needless 0 or +.
func number(word string) (int, bool) {
	n, err := strconv.Atoi(word)
	return n, err == nil && strconv.Itoa(n) == word
}
