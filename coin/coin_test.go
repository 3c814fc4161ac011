package coin

import (
	"math"
	"slices"
	"testing"

	"cairn/api"
)

// P1.1

func TestCheck(t *testing.T) {
	for _, n := range []int{0, 1, 64, api.MaxCoin - 1, api.MaxCoin} {
		if e := Check(n); e != api.OK {
			t.Errorf("Check(%d) = %v, want OK", n, e)
		}
	}
	for _, n := range []int{-1, math.MinInt, api.MaxCoin + 1, math.MaxInt} {
		if e := Check(n); e != api.ErrRange {
			t.Errorf("Check(%d) = %v, want ErrRange", n, e)
		}
	}
}

func TestSum(t *testing.T) {
	cases := []struct {
		name string
		l    []int
		sum  int
		e    api.Errno
	}{
		{"nothing", nil, 0, api.OK},
		{"empty", []int{}, 0, api.OK},
		{"one", []int{5}, 5, api.OK},
		{"several", []int{1, 2, 3, 0}, 6, api.OK},
		{"just all", []int{api.MaxCoin - 1, 1, 0}, api.MaxCoin, api.OK},
		{"one too much", []int{api.MaxCoin, 1}, 0, api.ErrFull},
		{"far too much", []int{api.MaxCoin, api.MaxCoin, api.MaxCoin}, 0, api.ErrFull},
		{"negative", []int{1, -1}, 0, api.ErrRange},
		{"above all", []int{api.MaxCoin + 1}, 0, api.ErrRange},
		{"lowest", []int{math.MinInt}, 0, api.ErrRange},
		{"no amount and too much at one place", []int{1, math.MaxInt}, 0, api.ErrRange},
		{"too much ahead of no amount", []int{api.MaxCoin, 1, -1}, 0, api.ErrFull},
		{"no amount ahead of too much", []int{api.MaxCoin, -1, 2}, 0, api.ErrRange},
	}
	for _, c := range cases {
		if sum, e := Sum(c.l...); sum != c.sum || e != c.e {
			t.Errorf("%s: Sum(%v) = %d, %v, want %d, %v", c.name, c.l, sum, e, c.sum, c.e)
		}
	}
}

func TestSumOnlyReads(t *testing.T) {
	room := []int{1, 2, 3, 4, 5}
	Sum(room[:3]...)
	if !slices.Equal(room, []int{1, 2, 3, 4, 5}) {
		t.Errorf("Sum left %v behind", room)
	}
}

// P1.2

func TestReward(t *testing.T) {
	cases := []struct{ height, reward int }{
		{1, 64}, {8, 64}, {9, 32}, {16, 32}, {17, 16}, {24, 16}, {25, 8}, {32, 8}, {33, 4}, {40, 4},
		{41, 2}, {48, 2}, {49, 1}, {56, 1}, {57, 0}, {64, 0}, {api.MaxHeight - 1, 0}, {api.MaxHeight, 0},
	}
	for _, c := range cases {
		if reward, e := Reward(c.height); reward != c.reward || e != api.OK {
			t.Errorf("Reward(%d) = %d, %v, want %d, OK", c.height, reward, e, c.reward)
		}
	}
}

func TestRewardOfNoHeight(t *testing.T) {
	for _, height := range []int{0, -1, math.MinInt, api.MaxHeight + 1, math.MaxInt} {
		if reward, e := Reward(height); reward != 0 || e != api.ErrRange {
			t.Errorf("Reward(%d) = %d, %v, want 0, ErrRange", height, reward, e)
		}
	}
}

func TestSupply(t *testing.T) {
	cases := []struct{ height, supply int }{
		{0, 0}, {1, 64}, {8, 512}, {9, 544}, {10, 576}, {16, 768}, {17, 784}, {55, 1015}, {56, 1016}, {57, 1016},
		{api.MaxHeight, 1016},
	}
	for _, c := range cases {
		if supply, e := Supply(c.height); supply != c.supply || e != api.OK {
			t.Errorf("Supply(%d) = %d, %v, want %d, OK", c.height, supply, e, c.supply)
		}
	}
}

func TestSupplyGrowsByReward(t *testing.T) {
	ahead := 0
	for height := 1; height <= api.MaxHeight; height++ {
		reward, _ := Reward(height)
		supply, e := Supply(height)
		if supply != ahead+reward || e != api.OK {
			t.Fatalf("Supply(%d) = %d, %v, want %d, OK", height, supply, e, ahead+reward)
		}
		ahead = supply
	}
}

func TestSupplyOfNoHeight(t *testing.T) {
	for _, height := range []int{-1, math.MinInt, api.MaxHeight + 1, math.MaxInt} {
		if supply, e := Supply(height); supply != 0 || e != api.ErrRange {
			t.Errorf("Supply(%d) = %d, %v, want 0, ErrRange", height, supply, e)
		}
	}
}

// P1.3

func TestSplit(t *testing.T) {
	cases := []struct {
		n, parts int
		shares   []int
	}{
		{7, 1, []int{7}},
		{7, 3, []int{3, 2, 2}},
		{6, 3, []int{2, 2, 2}},
		{8, 3, []int{3, 3, 2}},
		{0, 3, []int{0, 0, 0}},
		{2, api.MaxOuts, []int{1, 1, 0, 0, 0, 0}},
		{api.MaxCoin, 1, []int{api.MaxCoin}},
		{api.MaxCoin, 3, []int{333333334, 333333333, 333333333}},
	}
	for _, c := range cases {
		if shares, e := Split(c.n, c.parts); !slices.Equal(shares, c.shares) || e != api.OK {
			t.Errorf("Split(%d, %d) = %v, %v, want %v, OK", c.n, c.parts, shares, e, c.shares)
		}
	}
}

func TestSplitIsEven(t *testing.T) {
	for parts := 1; parts <= api.MaxOuts; parts++ {
		for _, base := range []int{0, 60, api.MaxCoin - 40} {
			for n := base; n <= base+40; n++ {
				shares, e := Split(n, parts)
				if e != api.OK || len(shares) != parts {
					t.Fatalf("Split(%d, %d) = %v, %v", n, parts, shares, e)
				}
				if sum, e := Sum(shares...); sum != n || e != api.OK {
					t.Errorf("Split(%d, %d) = %v: the sum is %d, %v", n, parts, shares, sum, e)
				}
				if shares[0]-shares[parts-1] > 1 {
					t.Errorf("Split(%d, %d) = %v: not even", n, parts, shares)
				}
				for i := 1; i < parts; i++ {
					if shares[i] > shares[i-1] {
						t.Errorf("Split(%d, %d) = %v: a greater one behind a lesser one", n, parts, shares)
					}
				}
			}
		}
	}
}

func TestSplitOfWhatMayNotBe(t *testing.T) {
	cases := []struct{ n, parts int }{
		{-1, 1}, {math.MinInt, 3}, {api.MaxCoin + 1, 1}, {math.MaxInt, 6},
		{7, 0}, {7, -1}, {7, math.MinInt}, {7, api.MaxOuts + 1}, {7, math.MaxInt}, {-1, 0},
	}
	for _, c := range cases {
		if shares, e := Split(c.n, c.parts); len(shares) != 0 || e != api.ErrRange {
			t.Errorf("Split(%d, %d) = %v, %v, want nothing, ErrRange", c.n, c.parts, shares, e)
		}
	}
}

func TestSplitAnswersNewMemory(t *testing.T) {
	first, _ := Split(7, 3)
	first[0] = 100
	if second, _ := Split(7, 3); !slices.Equal(second, []int{3, 2, 2}) {
		t.Errorf("Split(7, 3) = %v behind a change of the answer ahead", second)
	}
}
