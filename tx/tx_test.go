package tx

import (
	"math"
	"reflect"
	"slices"
	"strings"
	"testing"

	"cairn/api"
)

func push(l ...int) []api.Op {
	var ops []api.Op
	for _, n := range l {
		ops = append(ops, api.Op{Kind: api.Push, N: n})
	}
	return ops
}

// wrong orders: too many, one of no kind, one of a number that may not be.
func tooMany() []api.Op { return make([]api.Op, api.MaxOps+1) }
func noKind() []api.Op  { return []api.Op{{Kind: 0}} }
func noRange() []api.Op { return push(1000001) }

func in(tx, at int, key ...api.Op) api.In {
	return api.In{P: api.Point{Tx: tx, At: at}, Key: key}
}

func out(coin int, lock ...api.Op) api.Out { return api.Out{Coin: coin, Lock: lock} }

// ins are so many, all unlike.
func ins(count int) []api.In {
	var l []api.In
	for i := range count {
		l = append(l, in(i+1, 0))
	}
	return l
}

func outs(coins ...int) []api.Out {
	var l []api.Out
	for _, n := range coins {
		l = append(l, out(n))
	}
	return l
}

func reward(height int, outs ...api.Out) api.Tx { return api.Tx{Height: height, Outs: outs} }

func spend(ins []api.In, outs ...api.Out) api.Tx { return api.Tx{Ins: ins, Outs: outs} }

// P3.1

func TestCheckTakesTransactions(t *testing.T) {
	full := push(make([]int, api.MaxOps)...)
	for _, c := range []struct {
		what string
		t    api.Tx
	}{
		{"a reward", reward(3, out(64, push(7)...))},
		{"the lowest reward", reward(1, out(1))},
		{"the highest reward", reward(api.MaxHeight, out(api.MaxCoin))},
		{"a reward with no list of ins", api.Tx{Height: 1, Ins: []api.In{}, Outs: outs(1)}},
		{"a spending", spend([]api.In{in(3, 1, push(7)...)}, out(5, push(7)...))},
		{"points at the edges", spend([]api.In{in(1, 0), in(api.MaxBook, api.MaxOuts-1)}, out(1))},
		{"points that share a number", spend([]api.In{in(1, 2), in(2, 1), in(1, 1), in(2, 2)}, out(1))},
		{"as many as may be", spend(ins(api.MaxIns), outs(1, 1, 1, 1, 1, 1)...)},
		{"full orders", spend([]api.In{in(1, 0, full...)}, out(1, full...))},
		{"all that there is", reward(1, outs(api.MaxCoin-2, 1, 1)...)},
		{"outs alike", reward(1, outs(5, 5)...)},
	} {
		if e := Check(c.t); e != api.OK {
			t.Errorf("%s: %v", c.what, e)
		}
	}
}

func TestCheckRefusesAWrongWhole(t *testing.T) {
	for _, c := range []struct {
		what string
		t    api.Tx
		want api.Errno
	}{
		{"nothing", api.Tx{}, api.ErrForm},
		{"a reward without outs", reward(1), api.ErrForm},
		{"a reward with an empty list of outs", api.Tx{Height: 1, Outs: []api.Out{}}, api.ErrForm},
		{"a spending without outs", spend(ins(1)), api.ErrForm},
		{"no outs, and a wrong height", reward(-1), api.ErrForm},
		{"no outs, and a wrong in", spend([]api.In{in(0, 0)}), api.ErrForm},
		{"too many ins", spend(ins(api.MaxIns+1), out(1)), api.ErrMany},
		{"too many outs", reward(1, outs(1, 1, 1, 1, 1, 1, 1)...), api.ErrMany},
		{"too many ins, no outs", spend(ins(api.MaxIns + 1)), api.ErrMany},
		{"too many outs, a wrong height", reward(0, make([]api.Out, api.MaxOuts+1)...), api.ErrMany},
		{"too many ins that are wrong", spend(make([]api.In, 1000), out(1)), api.ErrMany},
		{"reward below", reward(0, out(1)), api.ErrRange},
		{"reward far below", reward(math.MinInt, out(1)), api.ErrRange},
		{"reward above", reward(api.MaxHeight+1, out(1)), api.ErrRange},
		{"reward far above", reward(math.MaxInt, out(1)), api.ErrRange},
		{"a spending with a height", api.Tx{Height: 1, Ins: ins(1), Outs: outs(1)}, api.ErrRange},
		{"a spending with a height below", api.Tx{Height: -1, Ins: ins(1), Outs: outs(1)}, api.ErrRange},
		{"a height is ahead of ins", api.Tx{Height: 1, Ins: []api.In{in(1, 0, noKind()...)}, Outs: outs(1)}, api.ErrRange},
		{"a height is ahead of outs", reward(0, out(1, noKind()...)), api.ErrRange},
	} {
		if e := Check(c.t); e != c.want {
			t.Errorf("%s: %v, want %v", c.what, e, c.want)
		}
	}
}

func TestCheckRefusesWrongIns(t *testing.T) {
	for _, c := range []struct {
		what string
		ins  []api.In
		want api.Errno
	}{
		{"name below", []api.In{in(0, 0)}, api.ErrRange},
		{"name far below", []api.In{in(math.MinInt, 0)}, api.ErrRange},
		{"name above", []api.In{in(api.MaxBook+1, 0)}, api.ErrRange},
		{"place below", []api.In{in(1, -1)}, api.ErrRange},
		{"place above", []api.In{in(1, api.MaxOuts)}, api.ErrRange},
		{"place far above", []api.In{in(1, math.MaxInt)}, api.ErrRange},
		{"key of too many", []api.In{in(1, 0, tooMany()...)}, api.ErrMany},
		{"key of no kind", []api.In{in(1, 0, noKind()...)}, api.ErrForm},
		{"key out of range", []api.In{in(1, 0, noRange()...)}, api.ErrRange},
		{"point is ahead of key", []api.In{in(0, 0, noKind()...)}, api.ErrRange},
		{"twice", []api.In{in(1, 0), in(1, 0)}, api.ErrTwice},
		{"twice, by unlike keys", []api.In{in(1, 0, push(1)...), in(1, 0, push(2)...)}, api.ErrTwice},
		{"twice, far apart", []api.In{in(1, 0), in(1, 1), in(2, 0), in(3, 3), in(4, 0), in(1, 0)}, api.ErrTwice},
		{"key is ahead of twice", []api.In{in(1, 0), in(1, 0, noKind()...)}, api.ErrForm},
		{"the first in's error: twice", []api.In{in(1, 0), in(1, 0), in(2, 0, noKind()...)}, api.ErrTwice},
		{"the first in's error: key", []api.In{in(2, 0, noKind()...), in(0, 0)}, api.ErrForm},
		{"a point that may not be, twice", []api.In{in(0, 0), in(0, 0)}, api.ErrRange},
	} {
		for _, outs := range [][]api.Out{outs(1), outs(0), {out(1, tooMany()...)}} {
			if e := Check(spend(c.ins, outs...)); e != c.want {
				t.Errorf("%s: %v, want %v", c.what, e, c.want)
			}
		}
	}
}

func TestCheckRefusesWrongOuts(t *testing.T) {
	for _, c := range []struct {
		what string
		outs []api.Out
		want api.Errno
	}{
		{"no coin", outs(0), api.ErrRange},
		{"coin below", outs(-1), api.ErrRange},
		{"coin far below", outs(math.MinInt), api.ErrRange},
		{"coin above", outs(api.MaxCoin + 1), api.ErrRange},
		{"coin far above", outs(math.MaxInt), api.ErrRange},
		{"lock of too many", []api.Out{out(1, tooMany()...)}, api.ErrMany},
		{"lock of no kind", []api.Out{out(1, noKind()...)}, api.ErrForm},
		{"lock out of range", []api.Out{out(1, noRange()...)}, api.ErrRange},
		{"coin is ahead of lock", []api.Out{out(0, noKind()...)}, api.ErrRange},
		{"the first out's error: lock", []api.Out{out(1, noKind()...), out(0)}, api.ErrForm},
		{"the first out's error: coin", []api.Out{out(0), out(1, noKind()...)}, api.ErrRange},
		{"a coin above is told behind all locks", []api.Out{out(api.MaxCoin + 1), out(1, noKind()...)}, api.ErrForm},
		{"too much together", outs(api.MaxCoin, 1), api.ErrFull},
		{"too much together, of six", outs(1, 1, 1, 1, 1, api.MaxCoin-4), api.ErrFull},
		{"far too much together", outs(math.MaxInt, math.MaxInt), api.ErrRange},
		{"too much is told ahead of a later coin above", outs(api.MaxCoin, 1, api.MaxCoin+1), api.ErrFull},
		{"too much is told behind all locks", []api.Out{out(api.MaxCoin), out(1), out(1, noKind()...)}, api.ErrForm},
		{"too much is told behind all coins below", outs(api.MaxCoin, 1, 0), api.ErrRange},
	} {
		for _, x := range []api.Tx{reward(1, c.outs...), spend(ins(1), c.outs...)} {
			if e := Check(x); e != c.want {
				t.Errorf("%s: %v, want %v", c.what, e, c.want)
			}
		}
	}
}

// unlike lists transactions that differ from each other, some of which are none.
func unlike() []api.Tx {
	return []api.Tx{
		{},
		reward(-1),
		reward(1),
		reward(1, out(1)),
		reward(2, out(1)),
		reward(1, out(2)),
		reward(1, out(1), out(1)),
		reward(1, out(1, push(0)...)),
		reward(1, out(1, push(1)...)),
		reward(1, out(1, push(1, 1)...)),
		reward(1, out(1, api.Op{Kind: 99, N: 1})),
		reward(1, out(1), out(2)),
		reward(1, out(2), out(1)),
		spend(ins(1)),
		spend(ins(1), out(1)),
		spend(ins(2), out(1)),
		spend([]api.In{in(2, 0), in(1, 0)}, out(1)),
		spend([]api.In{in(2, 0)}, out(1)),
		spend([]api.In{in(1, 1)}, out(1)),
		spend([]api.In{in(-1, 99)}, out(1)),
		spend([]api.In{in(1, 0, push(1)...)}, out(1)),
		spend([]api.In{in(1, 0, push(2)...)}, out(1)),
		spend([]api.In{in(1, 0, push(2, 2)...)}, out(1)),
		spend(make([]api.In, api.MaxIns+1), make([]api.Out, api.MaxOuts+1)...),
	}
}

func TestSame(t *testing.T) {
	for i, a := range unlike() {
		for j, b := range unlike() {
			if got := Same(a, b); got != (i == j) {
				t.Errorf("Same(%v, %v): %v", a, b, got)
			}
		}
	}
}

func TestSameTakesEmptyListsForNone(t *testing.T) {
	for _, c := range [][2]api.Tx{
		{{}, {Ins: []api.In{}, Outs: []api.Out{}}},
		{spend(ins(1), out(1)), {Ins: []api.In{{P: api.Point{Tx: 1}, Key: []api.Op{}}}, Outs: []api.Out{{Coin: 1, Lock: []api.Op{}}}}},
	} {
		if !Same(c[0], c[1]) || !Same(c[1], c[0]) {
			t.Errorf("%v and %v are not the same", c[0], c[1])
		}
	}
}

// P3.2

func TestPrintAndParseLines(t *testing.T) {
	same := api.Op{Kind: api.Same}
	for _, c := range []struct {
		t api.Tx
		s string
	}{
		{reward(1, out(1)), "tx 1\nout 1:\n"},
		{reward(api.MaxHeight, out(api.MaxCoin, append(push(-7), same)...)), "tx 1000\nout 1000000000:-7 same\n"},
		{reward(2, out(3, push(1, 2)...), out(4)), "tx 2\nout 3:1 2\nout 4:\n"},
		{spend([]api.In{in(3, 1, push(7)...), in(4, 0)}, out(5, append(push(7), same)...)), "tx 0\nin 3 1:7\nin 4 0:\nout 5:7 same\n"},
		{spend([]api.In{in(api.MaxBook, api.MaxOuts-1)}, out(10), out(10)), "tx 0\nin 120 5:\nout 10:\nout 10:\n"},
	} {
		if s, e := Print(c.t); s != c.s || e != api.OK {
			t.Errorf("Print(%v): %q, %v, want %q", c.t, s, e, c.s)
		}
		if x, e := Parse(c.s); !Same(x, c.t) || e != api.OK {
			t.Errorf("Parse(%q): %v, %v, want %v", c.s, x, e, c.t)
		}
	}
}

func TestPrintRefuses(t *testing.T) {
	for _, c := range []struct {
		t    api.Tx
		want api.Errno
	}{
		{api.Tx{}, api.ErrForm},
		{reward(0, out(1)), api.ErrRange},
		{reward(1, make([]api.Out, api.MaxOuts+1)...), api.ErrMany},
		{reward(1, out(1, noKind()...)), api.ErrForm},
		{reward(1, outs(api.MaxCoin, 1)...), api.ErrFull},
		{spend([]api.In{in(1, 0), in(1, 0)}, out(1)), api.ErrTwice},
		{spend([]api.In{in(1, 0, tooMany()...)}, out(1)), api.ErrMany},
	} {
		if s, e := Print(c.t); s != "" || e != c.want {
			t.Errorf("Print(%v): %q, %v, want %v", c.t, s, e, c.want)
		}
	}
}

func refused(t *testing.T, s string, want api.Errno) {
	t.Helper()
	x, e := Parse(s)
	if e != want || !reflect.DeepEqual(x, api.Tx{}) {
		t.Errorf("Parse(%q): %v, %v, want %v", s, x, e, want)
	}
}

func TestParseRefusesWhatIsNotWrittenSo(t *testing.T) {
	for _, s := range []string{
		"", "\n", "tx", "tx\n", "tx \n", "tx 1", "tx 1\nout 5:", "tx 1\nout 5:\n\n", "\ntx 1\nout 5:\n", "tx 1\n\nout 5:\n",
		"tx 1 \nout 5:\n", " tx 1\nout 5:\n", "tx  1\nout 5:\n", "tx 01\nout 5:\n", "tx +1\nout 5:\n", "tx -0\nout 5:\n", "tx one\nout 5:\n", "tx 1 2\nout 5:\n", "TX 1\nout 5:\n", "out 5:\n", "tx 1:\nout 5:\n",
		"tx 1\nout 5\n", "tx 1\nout 05:\n", "tx 1\nout :\n", "tx 1\nout:\n", "tx 1\nout 5 :\n", "tx 1\nout 5 5:\n", "tx 1\n out 5:\n", "tx 1\nout  5:\n", "tx 1\nOut 5:\n", "tx 1\n5:\n", "tx 1\nout 99999999999999999999:\n",
		"tx 0\nin 1:\nout 5:\n", "tx 0\nin 1 0\nout 5:\n", "tx 0\nin 1 0 0:\nout 5:\n", "tx 0\nin 1  0:\nout 5:\n", "tx 0\nin 1 00:\nout 5:\n", "tx 0\nin 1,0:\nout 5:\n", "tx 0\nin 1 x:\nout 5:\n",
		"tx 0\nout 5:\nin 1 0:\n", "tx 0\nin 1 0:\nout 5:\nin 2 0:\n", "tx 1\nout 5:\ntx 1\nout 5:\n", "tx 1\nfoo 5:\n",
		"tx 1\r\nout 5:\r\n", "tx 1\nout 5:\x00\n", "tx 1\nout\t5:\n",
	} {
		refused(t, s, api.ErrText)
	}
}

func TestParseRefusesWrongOrders(t *testing.T) {
	tooMany := strings.TrimSpace(strings.Repeat("1 ", api.MaxOps+1))
	for _, words := range []string{"foo", " 7", "7 ", "7  7", "7:7", ":", "07", "Same", "1000001", "-1000001", tooMany} {
		refused(t, "tx 1\nout 5:"+words+"\n", api.ErrText)
		refused(t, "tx 0\nin 1 0:"+words+"\nout 5:\n", api.ErrText)
		refused(t, "tx -1\nout 0:"+words+"\n", api.ErrText)
	}
}

func TestParseRefusesWhatCheckRefuses(t *testing.T) {
	for _, c := range []struct {
		s    string
		want api.Errno
	}{
		{"tx 1\n", api.ErrForm},
		{"tx 0\nin 1 0:\n", api.ErrForm},
		{"tx 0\nout 5:\n", api.ErrRange},
		{"tx -1\nout 5:\n", api.ErrRange},
		{"tx 1001\nout 5:\n", api.ErrRange},
		{"tx 1\nin 1 0:\nout 5:\n", api.ErrRange},
		{"tx 1\nout 0:\n", api.ErrRange},
		{"tx 1\nout -5:\n", api.ErrRange},
		{"tx 1\nout 1000000001:\n", api.ErrRange},
		{"tx 1\nout 1000000000:\nout 1:\n", api.ErrFull},
		{"tx 0\nin 0 0:\nout 1:\n", api.ErrRange},
		{"tx 0\nin 121 0:\nout 1:\n", api.ErrRange},
		{"tx 0\nin 1 6:\nout 1:\n", api.ErrRange},
		{"tx 0\nin 1 -1:\nout 1:\n", api.ErrRange},
		{"tx 0\nin 1 0:\nin 1 0:7\nout 1:\n", api.ErrTwice},
		{"tx 1\n" + strings.Repeat("out 1:\n", api.MaxOuts+1), api.ErrMany},
		{"tx 0\n" + strings.Repeat("in 1 0:\n", api.MaxIns+1) + "out 1:\n", api.ErrMany},
		{"tx 0\n" + strings.Repeat("in 1 0:\n", api.MaxIns+1) + "out 1\n", api.ErrText},
	} {
		refused(t, c.s, c.want)
	}
}

func TestParseRefusesLongTexts(t *testing.T) {
	const head = "tx 1\nout 1:"
	for _, c := range []struct {
		length int
		want   api.Errno
	}{
		{api.MaxText, api.ErrText}, {api.MaxText + 1, api.ErrMany}, {10 * api.MaxText, api.ErrMany},
	} {
		refused(t, strings.Repeat("x", c.length), c.want)
		refused(t, head+strings.Repeat(" ", c.length-len(head)-1)+"\n", c.want)
	}
}

// P3.3

func TestParseOfPrintIsTheTransaction(t *testing.T) {
	seed := 1
	next := func(below int) int {
		seed = (seed*7919 + 104729) % 1000003
		return seed % below
	}
	orders := func() []api.Op {
		l := make([]api.Op, next(api.MaxOps+1))
		for i := range l {
			l[i].Kind = api.Push + next(api.Mix)
			if l[i].Kind == api.Push {
				l[i].N = next(2000001) - 1000000
			}
		}
		return l
	}
	for range 2000 {
		var x api.Tx
		for i := range next(api.MaxIns + 1) {
			x.Ins = append(x.Ins, in(i*20+1+next(20), next(api.MaxOuts), orders()...))
		}
		if len(x.Ins) == 0 {
			x.Height = 1 + next(api.MaxHeight)
		}
		for range 1 + next(api.MaxOuts) {
			x.Outs = append(x.Outs, out(1+next(api.MaxCoin/api.MaxOuts), orders()...))
		}
		roundTrip(t, x)
	}
}

func TestParseOfPrintIsTheLongestTransaction(t *testing.T) {
	long := push(slices.Repeat([]int{-1000000}, api.MaxOps)...)
	var x api.Tx
	for i := range api.MaxIns {
		x.Ins = append(x.Ins, in(api.MaxBook, i, long...))
	}
	for range api.MaxOuts {
		x.Outs = append(x.Outs, out(api.MaxCoin/api.MaxOuts, long...))
	}
	roundTrip(t, x)
}

func roundTrip(t *testing.T, x api.Tx) {
	t.Helper()
	s, e := Print(x)
	if e != api.OK {
		t.Fatal(x, e)
	}
	if back, e := Parse(s); !Same(back, x) || e != api.OK {
		t.Fatalf("%q: %v, %v, want %v", s, back, e, x)
	}
}

// P2 of the whole document, where lists are handed in and out.

func TestCallsOnlyRead(t *testing.T) {
	fresh := func() api.Tx {
		return spend([]api.In{in(3, 1, push(7, 8)...), in(4, 0)}, out(5, push(1)...), out(6))
	}
	x := fresh()
	// Spare room behind each list, in which a marker stands.
	x.Ins, x.Outs = append(x.Ins, in(99, 9)), append(x.Outs, out(99))
	room := x
	x.Ins, x.Outs = x.Ins[:2], x.Outs[:2]
	Check(x)
	Same(x, x)
	Print(x)
	if !reflect.DeepEqual(x, fresh()) || room.Ins[2].P.Tx != 99 || room.Outs[2].Coin != 99 {
		t.Error("what was handed in is changed:", room)
	}
}

func TestParseAnswersNewMemory(t *testing.T) {
	const s = "tx 0\nin 3 1:7\nin 4 0:7\nout 5:7\nout 5:7\n"
	x, _ := Parse(s)
	x.Ins[0].Key[0].N = 1
	x.Ins[1].Key = append(x.Ins[1].Key, push(2)...)
	x.Outs[0].Lock[0].N = 3
	if x.Ins[1].Key[0].N != 7 || x.Outs[1].Lock[0].N != 7 {
		t.Error("lists of one answer share memory:", x)
	}
	if again, _ := Parse(s); again.Ins[0].Key[0].N != 7 || again.Outs[0].Lock[0].N != 7 {
		t.Error("Parse keeps what it answered:", again)
	}
}
