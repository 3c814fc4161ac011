package block

import (
	"math"
	"reflect"
	"slices"
	"strconv"
	"strings"
	"testing"

	"cairn/api"
)

func push(l ...int) []api.Op {
	var ops []api.Op
	for _, n := range l {
		ops = append(ops, api.Op{Kind: api.Push, N: n})
	}
	return ops
}

func tooMany() []api.Op { return make([]api.Op, api.MaxOps+1) }
func noKind() []api.Op  { return []api.Op{{Kind: 0}} }

func in(tx, at int, key ...api.Op) api.In {
	return api.In{P: api.Point{Tx: tx, At: at}, Key: key}
}

func out(coin int, lock ...api.Op) api.Out { return api.Out{Coin: coin, Lock: lock} }

func reward(height int, outs ...api.Out) api.Tx { return api.Tx{Height: height, Outs: outs} }

// spend has one in, without a key, and gives to anyone who has 1.
func spend(tx, at int, coins ...int) api.Tx {
	x := api.Tx{Ins: []api.In{in(tx, at)}}
	for _, n := range coins {
		x.Outs = append(x.Outs, out(n, push(1)...))
	}
	return x
}

func of(height int, txs ...api.Tx) api.Block {
	return api.Block{Height: height, Work: 1, Txs: txs}
}

// some is a block of a reward and two others.
func some() api.Block {
	return api.Block{Parent: 4, Height: 3, Work: 2, Nonce: 5, Txs: []api.Tx{reward(3, out(64, push(7)...)), spend(1, 0, 9), spend(2, 5, 1, 2)}}
}

const someText = "block 4 3 2 5\ntx 3\nout 64:7\ntx 0\nin 1 0:\nout 9:1\ntx 0\nin 2 5:\nout 1:1\nout 2:1\n"

// longest is a transaction of as many letters as may be.
func longest() api.Tx {
	full := push(slices.Repeat([]int{-1000000}, api.MaxOps)...)
	var x api.Tx
	for i := range api.MaxIns {
		x.Ins = append(x.Ins, in(api.MaxBook, i, full...))
	}
	for range api.MaxOuts {
		x.Outs = append(x.Outs, out(api.MaxCoin/api.MaxOuts, full...))
	}
	return x
}

// tooLong is a block whose text is longer than any may be.
func tooLong() api.Block { return of(1, reward(1, out(1)), longest(), longest(), longest()) }

// filled is a block with so many orders of as many letters as may be.
func filled(count int) api.Block {
	b := tooLong()
	take := func(l []api.Op) []api.Op {
		l = l[:min(len(l), count)]
		count -= len(l)
		return l
	}
	for _, x := range b.Txs[1:] {
		for i := range x.Ins {
			x.Ins[i].Key = take(x.Ins[i].Key)
			x.Outs[i].Lock = take(x.Outs[i].Lock)
		}
	}
	return b
}

// sized is a block with a text of so many bytes: orders fill it up to where the nonce has room for the rest.
func sized(t *testing.T, length int) api.Block {
	t.Helper()
	for count := range 3 * (api.MaxIns + api.MaxOuts) * api.MaxOps {
		b := filled(count)
		s, _ := Print(b)
		if left := length - len(s); left < 10 {
			b.Nonce = int(math.Pow10(left))
			return b
		}
	}
	t.Fatalf("no block has %d bytes", length)
	return api.Block{}
}

// P6.1

func TestCheckTakesBlocks(t *testing.T) {
	for _, c := range []struct {
		what string
		b    api.Block
	}{
		{"a reward alone", of(1, reward(1, out(64)))},
		{"a reward and others", some()},
		{"all numbers at their lowest", api.Block{Height: 1, Work: 1, Txs: []api.Tx{reward(1, out(1))}}},
		{"all numbers at their highest", api.Block{Parent: api.MaxBook, Height: api.MaxHeight, Work: api.MaxWork, Nonce: api.MaxCoin, Txs: []api.Tx{reward(api.MaxHeight, out(1))}}},
		{"as many as may be", of(2, reward(2, out(1)), spend(1, 0, 1), spend(1, 0, 1), spend(1, 0, 1))},
		{"a reward of far too much", of(1, reward(1, out(api.MaxCoin)))},
		{"one that is too long to be read", tooLong()},
		{"a reward with an empty list of ins", of(1, api.Tx{Height: 1, Ins: []api.In{}, Outs: []api.Out{out(1)}})},
	} {
		if e := Check(c.b); e != api.OK {
			t.Errorf("%s: %v", c.what, e)
		}
	}
}

type wrongBlock struct {
	what string
	b    api.Block
	want api.Errno
}

// wrong are blocks that are none, and what is wrong with each.
func wrong() []wrongBlock {
	with := func(parent, height, work, nonce int, txs ...api.Tx) api.Block {
		return api.Block{Parent: parent, Height: height, Work: work, Nonce: nonce, Txs: txs}
	}
	first, other := reward(3, out(1)), spend(1, 0, 1)
	full, twice := reward(3, out(api.MaxCoin), out(1)), api.Tx{Ins: []api.In{in(1, 0), in(1, 0)}, Outs: []api.Out{out(1)}}
	return []wrongBlock{
		{"nothing", api.Block{}, api.ErrRange},
		{"parent below", with(-1, 3, 1, 0, first), api.ErrRange},
		{"parent far below", with(math.MinInt, 3, 1, 0, first), api.ErrRange},
		{"parent above", with(api.MaxBook+1, 3, 1, 0, first), api.ErrRange},
		{"parent far above", with(math.MaxInt, 3, 1, 0, first), api.ErrRange},
		{"height below", with(0, 0, 1, 0, first), api.ErrRange},
		{"height above", with(0, api.MaxHeight+1, 1, 0, first), api.ErrRange},
		{"height far above", with(0, math.MaxInt, 1, 0, first), api.ErrRange},
		{"work below", with(0, 3, 0, 0, first), api.ErrRange},
		{"work above", with(0, 3, api.MaxWork+1, 0, first), api.ErrRange},
		{"work far below", with(0, 3, math.MinInt, 0, first), api.ErrRange},
		{"nonce below", with(0, 3, 1, -1, first), api.ErrRange},
		{"nonce above", with(0, 3, 1, api.MaxCoin+1, first), api.ErrRange},
		{"nonce far above", with(0, 3, 1, math.MaxInt, first), api.ErrRange},
		{"range is ahead of how many", with(0, 3, 0, 0, make([]api.Tx, api.MaxTxs+1)...), api.ErrRange},
		{"range is ahead of none", with(0, 3, 1, -1), api.ErrRange},
		{"range is ahead of wrong ones", with(-1, 3, 1, 0, other, twice), api.ErrRange},
		{"too many", of(3, first, other, other, other, other), api.ErrMany},
		{"far too many that are wrong", of(3, make([]api.Tx, 1000)...), api.ErrMany},
		{"none", of(3), api.ErrForm},
		{"an empty list", of(3, []api.Tx{}...), api.ErrForm},
		{"a first one that is wrong", of(3, full), api.ErrFull},
		{"a last one that is wrong", of(3, first, other, twice), api.ErrTwice},
		{"one with a lock of no kind", of(3, first, api.Tx{Ins: other.Ins, Outs: []api.Out{out(1, noKind()...)}}), api.ErrForm},
		{"one with a key of too many", of(3, first, api.Tx{Ins: []api.In{in(1, 0, tooMany()...)}, Outs: other.Outs}), api.ErrMany},
		{"no reward", of(3, other), api.ErrForm},
		{"no reward first", of(3, other, first), api.ErrForm},
		{"a reward of a lower height", of(4, first), api.ErrForm},
		{"a reward of a higher height", of(2, first), api.ErrForm},
		{"a second reward", of(3, first, first), api.ErrForm},
		{"a second reward of another height", of(3, first, other, reward(4, out(1))), api.ErrForm},
		{"a second reward of no height", of(3, first, reward(0, out(1))), api.ErrRange},
		{"a first one that is wrong is told by what is wrong", of(4, full), api.ErrFull},
		{"a second reward that is wrong is told by what is wrong", of(3, first, full), api.ErrFull},
		{"the first one's error: no reward", of(3, other, twice), api.ErrForm},
		{"the first one's error: twice", of(3, first, twice, first), api.ErrTwice},
		{"the first one's error: a second reward", of(3, first, first, twice), api.ErrForm},
	}
}

func TestCheckRefuses(t *testing.T) {
	for _, c := range wrong() {
		if e := Check(c.b); e != c.want {
			t.Errorf("%s: %v, want %v", c.what, e, c.want)
		}
	}
}

func TestSame(t *testing.T) {
	changed := func(change func(*api.Block)) api.Block {
		b := some()
		change(&b)
		return b
	}
	for _, c := range []struct {
		what string
		a, b api.Block
		want bool
	}{
		{"alike", some(), some(), true},
		{"nothing", api.Block{}, api.Block{}, true},
		{"no list, and an empty one", of(1), api.Block{Height: 1, Work: 1, Txs: []api.Tx{}}, true},
		{"empty lists further in", of(1, reward(1, out(1))), of(1, api.Tx{Height: 1, Ins: []api.In{}, Outs: []api.Out{{Coin: 1, Lock: []api.Op{}}}}), true},
		{"alike, and no blocks", of(-1, reward(9), reward(9)), of(-1, reward(9), reward(9)), true},
		{"parent", some(), changed(func(b *api.Block) { b.Parent++ }), false},
		{"height", some(), changed(func(b *api.Block) { b.Height++ }), false},
		{"work", some(), changed(func(b *api.Block) { b.Work++ }), false},
		{"nonce", some(), changed(func(b *api.Block) { b.Nonce++ }), false},
		{"numbers in another order", api.Block{Parent: 1, Nonce: 2}, api.Block{Parent: 2, Nonce: 1}, false},
		{"one less", some(), changed(func(b *api.Block) { b.Txs = b.Txs[:2] }), false},
		{"one more", some(), changed(func(b *api.Block) { b.Txs = append(b.Txs, api.Tx{}) }), false},
		{"another order", some(), changed(func(b *api.Block) { b.Txs[1], b.Txs[2] = b.Txs[2], b.Txs[1] }), false},
		{"a transaction's height", some(), changed(func(b *api.Block) { b.Txs[0].Height++ }), false},
		{"a coin of the last one", some(), changed(func(b *api.Block) { b.Txs[2].Outs[1].Coin++ }), false},
		{"a key", some(), changed(func(b *api.Block) { b.Txs[1].Ins[0].Key = push(1) }), false},
	} {
		if Same(c.a, c.b) != c.want || Same(c.b, c.a) != c.want {
			t.Errorf("%s: %v", c.what, !c.want)
		}
	}
}

// P6.2

func TestPrintAndParseLines(t *testing.T) {
	for _, c := range []struct {
		b api.Block
		s string
	}{
		{some(), someText},
		{of(1, reward(1, out(64))), "block 0 1 1 0\ntx 1\nout 64:\n"},
		{api.Block{Parent: 120, Height: 1000, Work: 1000, Nonce: 1000000000, Txs: []api.Tx{reward(1000, out(1), out(2))}}, "block 120 1000 1000 1000000000\ntx 1000\nout 1:\nout 2:\n"},
		{of(2, reward(2, out(1)), spend(1, 0, 1), spend(1, 0, 1), spend(1, 0, 1)), "block 0 2 1 0\ntx 2\nout 1:\n" + strings.Repeat("tx 0\nin 1 0:\nout 1:1\n", 3)},
	} {
		if s, e := Print(c.b); s != c.s || e != api.OK {
			t.Errorf("Print(%v): %q, %v, want %q", c.b, s, e, c.s)
		}
		if b, e := Parse(c.s); !Same(b, c.b) || e != api.OK {
			t.Errorf("Parse(%q): %v, %v, want %v", c.s, b, e, c.b)
		}
	}
}

func TestPrintTellsCheckFirst(t *testing.T) {
	for _, c := range wrong() {
		if s, e := Print(c.b); s != "" || e != c.want {
			t.Errorf("%s: %q, %v, want %v", c.what, s, e, c.want)
		}
	}
}

func refused(t *testing.T, s string, want api.Errno) {
	t.Helper()
	if b, e := Parse(s); !reflect.DeepEqual(b, api.Block{}) || e != want {
		t.Errorf("Parse(%q): %v, %v, want %v", s, b, e, want)
	}
}

func TestParseRefusesAWrongFirstLine(t *testing.T) {
	for _, line := range []string{
		"", "block", "block ", "block 0 1 1", "block 0 1 1 ", "block 0 1 1 0 ", "block 0 1 1 0 0", " block 0 1 1 0", "block  0 1 1 0", "block 0 1  1 0",
		"Block 0 1 1 0", "blocks 0 1 1 0", "tx 1", "0 1 1 0", "block 00 1 1 0", "block 0 01 1 0", "block 0 1 +1 0", "block 0 1 1 -0", "block 0 1 1 x", "block 0 1 1 0x0", "block 0,1,1,0",
		"block 0 1 1 99999999999999999999", "block 0 1 1 0\r", "block\t0 1 1 0", "block 0 1 1 0\x00", "block 0 1 1 0:", "block 0 1 1 0 tx 1",
	} {
		refused(t, line, api.ErrText)
		refused(t, line+"\ntx 1\nout 64:\n", api.ErrText)
		refused(t, line+"\ntx 1\n", api.ErrText)
	}
	refused(t, "\n"+someText, api.ErrText)
}

func TestParseRefusesWrongTransactions(t *testing.T) {
	const head, good = "block 0 1 1 0\n", "tx 1\nout 64:\n"
	for _, c := range []struct {
		s    string
		want api.Errno
	}{
		{"\n", api.ErrText},
		{"\n" + good, api.ErrText},
		{"x\n" + good, api.ErrText},
		{" " + good, api.ErrText},
		{"out 64:\n" + good, api.ErrText},
		{"tx\n" + good, api.ErrText},
		{"block 0 1 1 0\n" + good, api.ErrText},
		{good + "\n", api.ErrText},
		{good + "x", api.ErrText},
		{good + "\n" + good, api.ErrText},
		{good + "tx", api.ErrText},
		{good + "tx\nin 1 0:\nout 1:\n", api.ErrText},
		{good + "tx ", api.ErrText},
		{good + "tx 0\nin 1 0:\nout 1:", api.ErrText},
		{good + " tx 0\nin 1 0:\nout 1:\n", api.ErrText},
		{good + "txs 0\nin 1 0:\nout 1:\n", api.ErrText},
		{"tx 1\nout 64:tx 1\nout 1:\n", api.ErrText},
		{"tx 1\r\nout 64:\r\n", api.ErrText},
		{"tx 1\n", api.ErrForm},
		{"tx 1\n" + good, api.ErrForm},
		{good + "tx 0\nout 1:\n", api.ErrRange},
		{good + "tx 0\nin 1 0:\nin 1 0:\nout 1:\n", api.ErrTwice},
		{"tx 1\nout 1000000000:\nout 1:\n", api.ErrFull},
		{"tx 1\n" + strings.Repeat("out 1:\n", api.MaxOuts+1), api.ErrMany},
		{"tx 1\nout 1000000000:\nout 1:\nx\n", api.ErrText},
		{"tx 1\nout 1000000000:\nout 1:\ntx x\n", api.ErrFull},
		{"tx 1\nout 1000000000:\nout 1:\ntx\n", api.ErrText},
		{"tx 1\nout 1000000000:\nout 1:\ntx\t0\n", api.ErrText},
		{"tx x\ntx 1\nout 1000000000:\nout 1:\n", api.ErrText},
		{strings.Repeat(good, api.MaxTxs) + "tx 0\nin 1 0:\nin 1 0:\nout 1:\n", api.ErrTwice},
	} {
		refused(t, head+c.s, c.want)
		// What is wrong with a piece is ahead of what Check says.
		refused(t, "block -1 0 0 -1\n"+c.s, c.want)
	}
}

func TestParseRefusesWhatCheckRefuses(t *testing.T) {
	const first, other = "tx 1\nout 64:\n", "tx 0\nin 1 0:\nout 1:\n"
	for _, c := range []struct {
		s    string
		want api.Errno
	}{
		{"block 0 1 1 0\n", api.ErrForm},
		{"block 0 1 1 0", api.ErrForm},
		{"block 0 1 0 0\n", api.ErrRange},
		{"block 0 1 0 0", api.ErrRange},
		{"block -1 1 1 0\n" + first, api.ErrRange},
		{"block 121 1 1 0\n" + first, api.ErrRange},
		{"block 0 0 1 0\n" + first, api.ErrRange},
		{"block 0 1001 1 0\n" + first, api.ErrRange},
		{"block 0 1 1001 0\n" + first, api.ErrRange},
		{"block 0 1 1 -1\n" + first, api.ErrRange},
		{"block 0 1 1 1000000001\n" + first, api.ErrRange},
		{"block 0 2 1 0\n" + first, api.ErrForm},
		{"block 0 1 1 0\n" + other, api.ErrForm},
		{"block 0 1 1 0\n" + other + first, api.ErrForm},
		{"block 0 1 1 0\n" + first + first, api.ErrForm},
		{"block 0 1 1 0\n" + first + strings.Repeat(other, api.MaxTxs), api.ErrMany},
		{"block 0 1 1 0\n" + strings.Repeat(first, 50), api.ErrMany},
		{"block 0 1 0 0\n" + strings.Repeat(first, 50), api.ErrRange},
	} {
		refused(t, c.s, c.want)
	}
}

func TestParseRefusesLongTexts(t *testing.T) {
	for _, c := range []struct {
		length int
		want   api.Errno
	}{
		{api.MaxText, api.ErrText}, {api.MaxText + 1, api.ErrMany}, {10 * api.MaxText, api.ErrMany},
	} {
		refused(t, strings.Repeat("x", c.length), c.want)
		refused(t, someText+strings.Repeat("\n", c.length-len(someText)), c.want)
	}
	s, e := Print(tooLong())
	if len(s) <= api.MaxText || e != api.OK {
		t.Fatal(len(s), e)
	}
	refused(t, s, api.ErrMany)
}

func TestParseOfPrintIsTheBlock(t *testing.T) {
	for seed := range 300 {
		d := &drawer{seed: seed}
		b := api.Block{Parent: d.below(api.MaxBook + 1), Height: 1 + d.below(api.MaxHeight), Work: 1 + d.below(api.MaxWork), Nonce: d.below(api.MaxCoin + 1)}
		b.Txs = []api.Tx{reward(b.Height, out(1+d.below(9), push(d.below(9))...))}
		for range d.below(api.MaxTxs) {
			b.Txs = append(b.Txs, spend(1+d.below(api.MaxBook), d.below(api.MaxOuts), 1+d.below(99), 1+d.below(99)))
		}
		roundTrip(t, b)
	}
	roundTrip(t, sized(t, api.MaxText))
}

func roundTrip(t *testing.T, b api.Block) {
	t.Helper()
	s, e := Print(b)
	if e != api.OK {
		t.Fatal(b, e)
	}
	if back, e := Parse(s); !Same(back, b) || e != api.OK {
		t.Fatalf("%q: %v, %v, want %v", s, back, e, b)
	}
}

// P6.3

func texts(l ...string) api.Book { return api.Book{Texts: l} }

// numbered is a book of so many texts.
func numbered(count int) api.Book {
	var b api.Book
	for i := range count {
		b.Texts = append(b.Texts, "text "+strconv.Itoa(i+1))
	}
	return b
}

func TestNames(t *testing.T) {
	const first, second, third = "tx 3\nout 64:7\n", "tx 0\nin 1 0:\nout 9:1\n", "tx 0\nin 2 5:\nout 1:1\nout 2:1\n"
	alike := of(2, reward(2, out(1)), spend(1, 0, 1), spend(1, 0, 1))
	const alikeFirst, alikeOther = "tx 2\nout 1:\n", "tx 0\nin 1 0:\nout 1:1\n"
	const alikeText = "block 0 2 1 0\n" + alikeFirst + alikeOther + alikeOther
	for _, c := range []struct {
		what string
		k    api.Book
		b    api.Block
		want []string
		name int
		txs  []int
	}{
		{"an empty book", api.Book{}, some(), []string{first, second, third, someText}, 4, []int{1, 2, 3}},
		{"behind others", texts("a", ""), some(), []string{"a", "", first, second, third, someText}, 6, []int{3, 4, 5}},
		{"all known, in another order", texts(someText, third, first, second), some(), []string{someText, third, first, second}, 1, []int{3, 4, 2}},
		{"a known block alone", texts(someText), some(), []string{someText, first, second, third}, 1, []int{2, 3, 4}},
		{"a known transaction alone", texts("a", second), some(), []string{"a", second, first, third, someText}, 5, []int{3, 2, 4}},
		{"two alike", api.Book{}, alike, []string{alikeFirst, alikeOther, alikeText}, 3, []int{1, 2, 2}},
		{"a reward alone", api.Book{}, of(1, reward(1, out(64))), []string{"tx 1\nout 64:\n", "block 0 1 1 0\ntx 1\nout 64:\n"}, 2, []int{1}},
		{"just room", numbered(api.MaxBook - 4), some(), append(numbered(api.MaxBook-4).Texts, first, second, third, someText), 120, []int{117, 118, 119}},
		{"a full book that has all", texts(append(numbered(api.MaxBook-4).Texts, first, someText, second, third)...), some(), append(numbered(api.MaxBook-4).Texts, first, someText, second, third), 118, []int{117, 119, 120}},
	} {
		k, name, txs, e := Names(c.k, c.b)
		if !slices.Equal(k.Texts, c.want) || name != c.name || !slices.Equal(txs, c.txs) || e != api.OK {
			t.Errorf("%s: %q, %v, %v, %v, want %q, %v, %v", c.what, k.Texts, name, txs, e, c.want, c.name, c.txs)
		}
	}
}

func unnamed(t *testing.T, what string, k api.Book, b api.Block, want api.Errno) {
	t.Helper()
	if k, name, txs, e := Names(k, b); k.Texts != nil || name != 0 || txs != nil || e != want {
		t.Errorf("%s: %v, %v, %v, %v, want %v", what, k, name, txs, e, want)
	}
}

func TestNamesRefuses(t *testing.T) {
	long := strings.Repeat("x", api.MaxText+1)
	for _, c := range []struct {
		what string
		k    api.Book
		b    api.Block
		want api.Errno
	}{
		{"a book of too many", numbered(api.MaxBook + 1), some(), api.ErrMany},
		{"a book with a text that is too long", texts(long), some(), api.ErrMany},
		{"a book with a text twice", texts("a", "a"), some(), api.ErrTwice},
		{"the book is ahead of a block that is too long", texts("a", "a"), tooLong(), api.ErrTwice},
		{"a block that is too long", api.Book{}, tooLong(), api.ErrMany},
		{"a full book", numbered(api.MaxBook), some(), api.ErrFull},
		{"no room for a transaction", numbered(api.MaxBook - 1), some(), api.ErrFull},
		{"no room for the block alone", numbered(api.MaxBook - 3), some(), api.ErrFull},
		{"no room is ahead of a block that is too long", numbered(api.MaxBook), tooLong(), api.ErrFull},
		{"a block that is too long is ahead of no room for it", numbered(api.MaxBook - 2), tooLong(), api.ErrMany},
	} {
		unnamed(t, c.what, c.k, c.b, c.want)
	}
	for _, c := range wrong() {
		unnamed(t, c.what, api.Book{}, c.b, c.want)
		unnamed(t, c.what+", ahead of the book", texts("a", long, "a"), c.b, c.want)
	}
}

func TestNamesTakesTheLongestBlock(t *testing.T) {
	k, name, _, e := Names(api.Book{}, sized(t, api.MaxText))
	if e != api.OK || len(k.Texts[name-1]) != api.MaxText {
		t.Error(name, e)
	}
	unnamed(t, "one byte more", api.Book{}, sized(t, api.MaxText+1), api.ErrMany)
}
