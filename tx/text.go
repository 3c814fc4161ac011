package tx

import (
	"strings"

	"cairn/api"
	"cairn/lock"
	"cairn/number"
)

// Print writes a transaction as lines.
func Print(t api.Tx) (string, api.Errno) {
	if e := Check(t); e != api.OK {
		return "", e
	}
	text := number.PrintRow("tx", t.Height) + "\n"
	for _, in := range t.Ins {
		text += printLine(in.Key, "in", in.P.Tx, in.P.At)
	}
	for _, out := range t.Outs {
		text += printLine(out.Lock, "out", out.Coin)
	}
	return text, api.OK
}

func printLine(orders []api.Op, word string, numbers ...int) string {
	// There is no error left to tell, as Check took these orders.
	words, _ := lock.Print(orders)
	return number.PrintRow(word, numbers...) + ":" + words + "\n"
}

// Parse reads a transaction back.
func Parse(s string) (api.Tx, api.Errno) {
	if len(s) > api.MaxText {
		return api.Tx{}, api.ErrMany
	}
	t, ok := parseLines(s)
	if !ok {
		return api.Tx{}, api.ErrText
	}
	if e := Check(t); e != api.OK {
		return api.Tx{}, e
	}
	return t, api.OK
}

func parseLines(s string) (api.Tx, bool) {
	body, ended := strings.CutSuffix(s, "\n")
	lines := strings.Split(body, "\n")
	head, ok := number.ParseRow(lines[0], "tx", 1)
	if !ended || !ok {
		return api.Tx{}, false
	}
	t := api.Tx{Height: head[0]}
	for _, line := range lines[1:] {
		if n, key, ok := parseLine(line, "in", 2); ok && len(t.Outs) == 0 {
			t.Ins = append(t.Ins, api.In{P: api.Point{Tx: n[0], At: n[1]}, Key: key})
		} else if n, orders, ok := parseLine(line, "out", 1); ok {
			t.Outs = append(t.Outs, api.Out{Coin: n[0], Lock: orders})
		} else {
			return api.Tx{}, false
		}
	}
	return t, true
}

// parseLine reads the numbers ahead of a colon and the orders behind it.
func parseLine(line, word string, count int) ([]int, []api.Op, bool) {
	head, tail, ok := strings.Cut(line, ":")
	if !ok {
		return nil, nil, false
	}
	numbers, ok := number.ParseRow(head, word, count)
	orders, e := lock.Parse(tail)
	if !ok || e != api.OK {
		return nil, nil, false
	}
	return numbers, orders, true
}
