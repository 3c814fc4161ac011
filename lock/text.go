package lock

import (
	"strconv"
	"strings"

	"cairn/api"
	"cairn/number"
)

// names of the orders by kind; a Push has none, as its number stands for it.
var names = [api.Mix + 1]string{
	api.Dup:    "dup",
	api.Swap:   "swap",
	api.Drop:   "drop",
	api.Add:    "add",
	api.Sub:    "sub",
	api.Same:   "same",
	api.Less:   "less",
	api.Not:    "not",
	api.And:    "and",
	api.Verify: "verify",
	api.Height: "height",
	api.Mix:    "mix",
}

// Print writes orders as words.
func Print(l []api.Op) (string, api.Errno) {
	if e := Check(l); e != api.OK {
		return "", e
	}
	words := make([]string, len(l))
	for i, o := range l {
		words[i] = printOrder(o)
	}
	return strings.Join(words, " "), api.OK
}

func printOrder(o api.Op) string {
	if o.Kind == api.Push {
		return strconv.Itoa(o.N)
	}
	return names[o.Kind]
}

// Parse reads orders back.
func Parse(s string) ([]api.Op, api.Errno) {
	if len(s) > api.MaxText {
		return nil, api.ErrMany
	}
	var l []api.Op
	for _, word := range split(s) {
		o, ok := parseOrder(word)
		if !ok {
			return nil, api.ErrText
		}
		l = append(l, o)
	}
	if e := Check(l); e != api.OK {
		return nil, e
	}
	return l, api.OK
}

// split tells the words of a text, none of an empty one, where strings.Split tells one.
func split(s string) []string {
	if s == "" {
		return nil
	}
	return strings.Split(s, " ")
}

func parseOrder(word string) (api.Op, bool) {
	if n, ok := number.Parse(word); ok {
		return api.Op{Kind: api.Push, N: n}, true
	}
	// A Push has no name, and the empty word must not be taken for it.
	for kind := api.Dup; kind <= api.Mix; kind++ {
		if names[kind] == word {
			return api.Op{Kind: kind}, true
		}
	}
	return api.Op{}, false
}
