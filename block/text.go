package block

import (
	"strings"

	"cairn/api"
	"cairn/number"
	"cairn/tx"
)

// Print writes a block as lines.
func Print(b api.Block) (string, api.Errno) {
	if e := Check(b); e != api.OK {
		return "", e
	}
	head := headOf(b)
	return number.PrintRow("block", head[:]...) + "\n" + strings.Join(printTxs(b.Txs), ""), api.OK
}

func printTxs(l []api.Tx) []string {
	texts := make([]string, len(l))
	for i, t := range l {
		// There is no error left to tell, as Check took these transactions.
		texts[i], _ = tx.Print(t)
	}
	return texts
}

// Parse reads a block back.
func Parse(s string) (api.Block, api.Errno) {
	if len(s) > api.MaxText {
		return api.Block{}, api.ErrMany
	}
	line, rest, _ := strings.Cut(s, "\n")
	head, ok := number.ParseRow(line, "block", headSize)
	if !ok {
		return api.Block{}, api.ErrText
	}
	b := api.Block{Parent: head[0], Height: head[1], Work: head[2], Nonce: head[3]}
	for _, piece := range pieces(rest) {
		t, e := tx.Parse(piece)
		if e != api.OK {
			return api.Block{}, e
		}
		b.Txs = append(b.Txs, t)
	}
	if e := Check(b); e != api.OK {
		return api.Block{}, e
	}
	return b, api.OK
}

// pieces cuts a text ahead of each line at which a transaction begins.
func pieces(s string) []string {
	var l []string
	for s != "" {
		end := strings.Index(s, "\ntx ") + 1
		// None is found: what is left is one piece.
		if end == 0 {
			end = len(s)
		}
		l = append(l, s[:end])
		s = s[end:]
	}
	return l
}
