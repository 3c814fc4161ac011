// Package output: outputs of transactions, and the points at which they stand, for all layers.
package output

import (
	"cmp"
	"slices"

	"cairn/api"
	"cairn/number"
)

// IsPoint tells whether an output may stand at p.
func IsPoint(p api.Point) bool {
	return number.Within(p.Tx, 1, api.MaxBook) && number.Within(p.At, 0, api.MaxOuts-1)
}

// Compare puts points in order: by their transaction, then by their place in it.
func Compare(a, b api.Point) int {
	return cmp.Or(cmp.Compare(a.Tx, b.Tx), cmp.Compare(a.At, b.At))
}

// Same tells whether two outputs are alike, even if they are none.
func Same(a, b api.Out) bool { return a.Coin == b.Coin && slices.Equal(a.Lock, b.Lock) }

// Copy is an output like o, with a lock in memory of its own.
func Copy(o api.Out) api.Out { return api.Out{Coin: o.Coin, Lock: slices.Clone(o.Lock)} }
