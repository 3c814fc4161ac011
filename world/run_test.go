package world

import (
	"math"
	"slices"
	"testing"

	"cairn/api"
)

// P11.2

func TestRun(t *testing.T) {
	script := []api.Happening{
		mine(0, 1, 0, 7), arrive(0), arrive(1), {}, mine(1, 1, 0, 8), share(2, 1), submit(0, waits()), submit(1, waits()),
		lose(9), arrive(1), fetch(0, 3, 1), forget(1), mine(1, 0, 0, 7), double(0),
	}
	want := []api.Errno{
		api.OK, api.OK, api.ErrWho, api.ErrForm, api.OK, api.ErrWho, api.ErrLate, api.OK,
		api.ErrWho, api.OK, api.ErrWho, api.OK, api.ErrRange, api.OK,
	}
	w, said, e := Run(3, script)
	if !slices.Equal(said, want) || e != api.OK {
		t.Fatalf("%v, %v, want %v", said, e, want)
	}
	// What has an error changes nothing, so that the world is the same without it.
	var good []api.Happening
	for i, x := range script {
		if want[i] == api.OK {
			good = append(good, x)
		}
	}
	if then := after(t, fresh(t, 3), good...); !sameWorld(w, then) {
		t.Errorf("%v, want %v", w, then)
	}
}

func TestRunOfNothing(t *testing.T) {
	for n := 1; n <= api.MaxNodes; n++ {
		for _, script := range [][]api.Happening{nil, {}} {
			if w, said, e := Run(n, script); !sameWorld(w, fresh(t, n)) || len(said) != 0 || e != api.OK {
				t.Errorf("%d: %v, %v, %v", n, w, said, e)
			}
		}
	}
}

func TestRunOfTooMuch(t *testing.T) {
	many := slices.Repeat([]api.Happening{fetch(0, 1, 1)}, api.MaxScript+1)
	w, said, e := Run(2, many[1:])
	if len(w.Net) != api.MaxNet || len(said) != api.MaxScript || e != api.OK {
		t.Errorf("%v, %v, %v", w, said, e)
	}
	for i, x := range said {
		if want := map[bool]api.Errno{true: api.OK, false: api.ErrFull}[i < api.MaxNet]; x != want {
			t.Errorf("%d: %v, want %v", i, x, want)
		}
	}
	unrun(t, "too much happens", 2, many, api.ErrMany)
	for _, n := range []int{0, -1, api.MaxNodes + 1, math.MaxInt, math.MinInt} {
		unrun(t, "no world", n, nil, api.ErrRange)
		unrun(t, "no world is ahead of too much", n, many, api.ErrRange)
	}
}

func unrun(t *testing.T, what string, n int, script []api.Happening, want api.Errno) {
	t.Helper()
	if w, said, e := Run(n, script); !isNothing(w) || said != nil || e != want {
		t.Errorf("%s: %v, %v, %v, want %v", what, w, said, e, want)
	}
}
