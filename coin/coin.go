// Package coin: amounts and rewards, see doc/01-coin.md.
package coin

import (
	"cairn/api"
	"cairn/number"
)

// Check tells whether n is an amount.
func Check(n int) api.Errno {
	if !number.Within(n, 0, api.MaxCoin) {
		return api.ErrRange
	}
	return api.OK
}

// Sum adds amounts up, unless one is none or together they are too much.
func Sum(l ...int) (int, api.Errno) {
	sum := 0
	for _, n := range l {
		if e := Check(n); e != api.OK {
			return 0, e
		}
		// Each side is an amount by now, so that even 32 bits have room for both.
		sum += n
		if Check(sum) != api.OK {
			return 0, api.ErrFull
		}
	}
	return sum, api.OK
}

// Reward tells what the block of a height may make.
func Reward(height int) (int, api.Errno) {
	if !number.Within(height, 1, api.MaxHeight) {
		return 0, api.ErrRange
	}
	reward := api.Reward
	for range (height - 1) / api.Halving {
		reward /= 2
	}
	return reward, api.OK
}

// Supply tells what all blocks up to a height may make together.
func Supply(height int) (int, api.Errno) {
	if !number.Within(height, 0, api.MaxHeight) {
		return 0, api.ErrRange
	}
	rewards := make([]int, height)
	for i := range height {
		reward, e := Reward(i + 1)
		if e != api.OK {
			return 0, e
		}
		rewards[i] = reward
	}
	return Sum(rewards...)
}

// Split shares n out evenly; what is left over goes to the first parts, one each.
func Split(n, parts int) ([]int, api.Errno) {
	if e := Check(n); e != api.OK {
		return nil, e
	}
	if !number.Within(parts, 1, api.MaxOuts) {
		return nil, api.ErrRange
	}
	shares := make([]int, parts)
	for i := range parts {
		shares[i] = n / parts
		if i < n%parts {
			shares[i]++
		}
	}
	return shares, api.OK
}
