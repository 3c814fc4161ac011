package world

import (
	"cmp"
	"reflect"
	"slices"
	"testing"

	"cairn/api"
)

// P2 of the whole document, where lists are handed in and out.

// roomy is a value like v, in memory of its own, with spare room behind each list, in which a marker stands.
func roomy(v reflect.Value) reflect.Value {
	out := reflect.New(v.Type()).Elem()
	switch v.Kind() {
	case reflect.Struct:
		for i := range v.NumField() {
			out.Field(i).Set(roomy(v.Field(i)))
		}
	case reflect.Slice:
		out.Set(reflect.MakeSlice(v.Type(), v.Len()+1, v.Len()+1))
		for i := range v.Len() {
			out.Index(i).Set(roomy(v.Index(i)))
		}
		mark(out.Index(v.Len()))
		out.Set(out.Slice(0, v.Len()))
	default:
		out.Set(v)
	}
	return out
}

func mark(v reflect.Value) {
	switch v.Kind() {
	case reflect.Struct:
		for i := range v.NumField() {
			mark(v.Field(i))
		}
	case reflect.Int:
		v.SetInt(77)
	case reflect.String:
		v.SetString("spare")
	}
}

// whole is a value like v, where each list has its spare room, too.
func whole(v reflect.Value) reflect.Value {
	out := reflect.New(v.Type()).Elem()
	switch v.Kind() {
	case reflect.Struct:
		for i := range v.NumField() {
			out.Field(i).Set(whole(v.Field(i)))
		}
	case reflect.Slice:
		all := v.Slice(0, v.Cap())
		out.Set(reflect.MakeSlice(v.Type(), v.Cap(), v.Cap()))
		for i := range all.Len() {
			out.Index(i).Set(whole(all.Index(i)))
		}
	default:
		out.Set(v)
	}
	return out
}

// span is the memory that a list has, from its first byte up to the one behind its last one.
type span struct{ from, to uintptr }

// spans are the memory of all lists of a value, and of the spare room behind them.
func spans(v reflect.Value) []span {
	var l []span
	switch v.Kind() {
	case reflect.Struct:
		for i := range v.NumField() {
			l = append(l, spans(v.Field(i))...)
		}
	case reflect.Slice:
		if v.Cap() > 0 {
			l = append(l, span{v.Pointer(), v.Pointer() + uintptr(v.Cap())*v.Type().Elem().Size()})
		}
		for i := range v.Len() {
			l = append(l, spans(v.Index(i))...)
		}
	}
	return l
}

// shared tells whether any two have memory in common.
func shared(l []span) bool {
	l = slices.SortedFunc(slices.Values(l), func(a, b span) int { return cmp.Compare(a.from, b.from) })
	for i := 1; i < len(l); i++ {
		if l[i].from < l[i-1].to {
			return true
		}
	}
	return false
}

// handed is a world where all kinds of messages are on their way, and something waits, and what comes of happenings there.
func handed(t *testing.T) (api.World, []api.Happening) {
	t.Helper()
	w := busy(t)
	odd := ask(2, 1, b)
	odd.B, odd.T = on(0, 1, 5, waits()), waits()
	w.Net = net(tell(1, 0, blockB()), tell(1, 2, blockB()), odd, pay(0, 1, spend(rewardB, 8, 1)), tell(0, 1, on(b, 3, 1, waits())), tell(0, 1, blockA()))
	more := submit(1, spend(free+1, 0, 40))
	more.T.Ins[0].Key = nil
	l := []api.Happening{mine(0, 1, 0, 7), mine(1, 1, 0, 8), more, forget(1), forget(0), share(1, 2), fetch(2, 1, b)}
	for k := range w.Net {
		l = append(l, arrive(k), lose(k), double(k))
	}
	return roomy(reflect.ValueOf(w)).Interface().(api.World), l
}

// fails are happenings that can't be there.
func fails() []api.Happening {
	return []api.Happening{
		{}, mine(0, 0, 0, 7), mine(3, 1, 0, 7), submit(1, waits()), submit(0, waits()), submit(1, api.Tx{}), forget(-1),
		share(2, 1), share(1, 1), fetch(0, 1, 0), arrive(6), lose(-1), double(99),
	}
}

func TestAnswersAreNewMemory(t *testing.T) {
	w, l := handed(t)
	if e := Check(w); e != api.OK {
		t.Fatal(e)
	}
	for _, x := range l {
		x = roomy(reflect.ValueOf(x)).Interface().(api.Happening)
		then, e := Do(w, x)
		if e != api.OK {
			t.Fatal(x, e)
		}
		if shared(slices.Concat(spans(reflect.ValueOf(w)), spans(reflect.ValueOf(x)), spans(reflect.ValueOf(then)))) {
			t.Errorf("%v: the answer shares memory", x)
		}
	}
	v, e := Settle(w)
	if e != api.OK || shared(append(spans(reflect.ValueOf(w)), spans(reflect.ValueOf(v))...)) {
		t.Errorf("Settle: the answer shares memory, or %v", e)
	}
	script := roomy(reflect.ValueOf([]api.Happening{mine(0, 1, 0, 7), arrive(0), mine(1, 1, 0, 8), mine(1, 1, 0, 8), submit(1, waits()), double(3), share(1, 0)}))
	v, said, e := Run(3, script.Interface().([]api.Happening))
	if e != api.OK || len(v.Net) < 6 || len(v.Nodes[1].Pool) != 1 || shared(slices.Concat(spans(script), spans(reflect.ValueOf(v)), spans(reflect.ValueOf(said)))) {
		t.Errorf("Run: the answer shares memory, or %v, %v", said, e)
	}
	if v, e = New(api.MaxNodes); e != api.OK || shared(spans(reflect.ValueOf(v))) {
		t.Errorf("New: the answer shares memory, or %v", e)
	}
}

func TestCallsOnlyRead(t *testing.T) {
	w, l := handed(t)
	script := roomy(reflect.ValueOf(append(l, fails()...))).Interface().([]api.Happening)
	was, read := whole(reflect.ValueOf(w)).Interface(), whole(reflect.ValueOf(script)).Interface()
	unchanged := func(what string) {
		t.Helper()
		if !reflect.DeepEqual(whole(reflect.ValueOf(w)).Interface(), was) || !reflect.DeepEqual(whole(reflect.ValueOf(script)).Interface(), read) {
			t.Fatalf("%s: what was handed in is changed", what)
		}
	}
	Check(w)
	for _, m := range w.Net {
		CheckMessage(m, 3)
	}
	unchanged("Check")
	for i, x := range script {
		then, e := Do(w, x)
		if failed := e != api.OK; failed != (i >= len(l)) || failed != isNothing(then) {
			t.Errorf("%v: %v, %v", x, then, e)
		}
		unchanged("Do")
	}
	if _, e := Settle(w); e != api.OK {
		t.Error(e)
	}
	unchanged("Settle")
	if _, _, e := Run(3, script); e != api.OK {
		t.Error(e)
	}
	unchanged("Run")
}

// Where lists that are handed in share memory, those of the answer don't.
func TestListsThatShareAreTornApart(t *testing.T) {
	w := busy(t)
	block, waits := w.Nodes[1].T.Blocks[1], w.Nodes[1].Pool[0]
	w.Nodes[0] = w.Nodes[1]
	w.Nodes[2] = w.Nodes[1]
	w.Net = net(tell(0, 1, block), tell(0, 2, block), pay(0, 1, waits), pay(1, 2, waits))
	for _, x := range []api.Happening{mine(0, 1, 0, 7), share(1, 2), double(0), double(2), arrive(0), lose(3), forget(2)} {
		then, e := Do(w, x)
		if e != api.OK || shared(append(spans(reflect.ValueOf(w.Nodes[0])), spans(reflect.ValueOf(then))...)) {
			t.Errorf("%v: the answer shares memory, or %v", x, e)
		}
	}
	if v, e := Settle(w); e != api.OK || shared(append(spans(reflect.ValueOf(w.Nodes[0])), spans(reflect.ValueOf(v))...)) {
		t.Errorf("Settle: the answer shares memory, or %v", e)
	}
}

// Empty lists and nil are alike, in what is handed in, too.
func TestEmptyListsAreLikeNil(t *testing.T) {
	nothing := api.Node{T: api.Tree{Names: []int{}, Blocks: []api.Block{}}, Pool: []api.Tx{}}
	w := api.World{Book: api.Book{Texts: []string{}}, Nodes: []api.Node{nothing, nothing}, Net: []api.Message{}}
	for _, x := range []api.Happening{mine(0, 1, 0, 7), forget(1), fetch(0, 1, 9)} {
		got, e := Do(w, x)
		if want := after(t, fresh(t, 2), x); !sameWorld(got, want) || e != api.OK {
			t.Errorf("%v: %v, %v, want %v", x, got, e, want)
		}
	}
	if got, e := Settle(w); !sameWorld(got, fresh(t, 2)) || e != api.OK {
		t.Errorf("Settle: %v, %v", got, e)
	}
}
