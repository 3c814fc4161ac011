package book

import (
	"math"
	"slices"
	"strconv"
	"strings"
	"testing"

	"cairn/api"
)

func of(texts ...string) api.Book { return api.Book{Texts: texts} }

// numbered are so many texts, all unlike.
func numbered(count int) []string {
	l := make([]string, count)
	for i := range l {
		l[i] = "text " + strconv.Itoa(i+1)
	}
	return l
}

// with is a list and more behind it, in memory of its own.
func with(l []string, more ...string) []string { return slices.Concat(l, more) }

func long(length int) string { return strings.Repeat("x", length) }

func full() api.Book { return of(numbered(api.MaxBook)...) }

// wrong are books that are none, and what is wrong with each.
func wrong() []struct {
	what string
	b    api.Book
	want api.Errno
} {
	tooLong := long(api.MaxText + 1)
	twice := numbered(api.MaxBook)
	twice[api.MaxBook-1] = twice[0]
	return []struct {
		what string
		b    api.Book
		want api.Errno
	}{
		{"too many", of(numbered(api.MaxBook + 1)...), api.ErrMany},
		{"far too many, all alike", of(make([]string, 5000)...), api.ErrMany},
		{"too many, the first two alike", of(with([]string{"a", "a"}, numbered(api.MaxBook-1)...)...), api.ErrMany},
		{"too long", of(tooLong), api.ErrMany},
		{"far too long", of(long(100 * api.MaxText)), api.ErrMany},
		{"the last one too long", of("a", "b", tooLong), api.ErrMany},
		{"too long in bytes, not in runes", of(strings.Repeat("é", api.MaxText/2) + "x"), api.ErrMany},
		{"twice", of("a", "a"), api.ErrTwice},
		{"twice, far apart", of(twice...), api.ErrTwice},
		{"no letters, twice", of("", ""), api.ErrTwice},
		{"the longest twice", of(long(api.MaxText), long(api.MaxText)), api.ErrTwice},
		{"bytes that are no letters, twice", of("\xff", "a", "\xff"), api.ErrTwice},
		{"too long is ahead of twice, of one text", of(tooLong, tooLong), api.ErrMany},
		{"the first text's error: twice", of("a", "a", tooLong), api.ErrTwice},
		{"the first text's error: too long", of("a", tooLong, "a"), api.ErrMany},
	}
}

// P4.1

func TestCheckTakesBooks(t *testing.T) {
	for _, c := range []struct {
		what string
		b    api.Book
	}{
		{"no list", api.Book{}},
		{"an empty list", of([]string{}...)},
		{"one", of("a")},
		{"some", of("a", "b", "c")},
		{"one of no letters", of("")},
		{"no letters among others", of("a", "", "b")},
		{"the longest", of(long(api.MaxText))},
		{"the longest in bytes", of(strings.Repeat("é", api.MaxText/2))},
		{"nearly alike", of("a", "A", "a ", " a", "aa", "a\n", "a\x00", "\x00a", "é", "e\u0301")},
		{"bytes that are no letters", of("\xff", "\xfe", "\uFFFD")},
		{"unlike by the last byte", of(long(api.MaxText-1)+"a", long(api.MaxText-1)+"b")},
		{"as many as may be", full()},
	} {
		if e := Check(c.b); e != api.OK {
			t.Errorf("%s: %v", c.what, e)
		}
	}
}

func TestCheckRefuses(t *testing.T) {
	for _, c := range wrong() {
		if e := Check(c.b); e != c.want {
			t.Errorf("%s: %v, want %v", c.what, e, c.want)
		}
	}
}

func TestTheOthersTellCheckFirst(t *testing.T) {
	tooLong := long(api.MaxText + 1)
	for _, c := range wrong() {
		for _, s := range []string{"a", "new", tooLong} {
			if b, n, e := Name(c.b, s); b.Texts != nil || n != 0 || e != c.want {
				t.Errorf("Name, %s: %v, %v, %v, want %v", c.what, b, n, e, c.want)
			}
		}
		for _, l := range [][]string{nil, {"a"}, {tooLong}, numbered(api.MaxBook + 1)} {
			if b, names, e := All(c.b, l); b.Texts != nil || names != nil || e != c.want {
				t.Errorf("All, %s: %v, %v, %v, want %v", c.what, b, names, e, c.want)
			}
		}
		for _, n := range []int{0, 1, 2, math.MaxInt} {
			if s, e := Look(c.b, n); s != "" || e != c.want {
				t.Errorf("Look, %s: %q, %v, want %v", c.what, s, e, c.want)
			}
		}
	}
}

// P4.2

func TestName(t *testing.T) {
	for _, c := range []struct {
		what string
		b    api.Book
		s    string
		want []string
		name int
	}{
		{"the first", api.Book{}, "a", []string{"a"}, 1},
		{"the first, no letters", of([]string{}...), "", []string{""}, 1},
		{"a known one, ahead", of("a", "b", "c"), "a", []string{"a", "b", "c"}, 1},
		{"a known one, between", of("a", "b", "c"), "b", []string{"a", "b", "c"}, 2},
		{"a known one, behind", of("a", "b", "c"), "c", []string{"a", "b", "c"}, 3},
		{"a known one of no letters", of("a", ""), "", []string{"a", ""}, 2},
		{"a new one", of("b", "a"), "c", []string{"b", "a", "c"}, 3},
		{"a new one of no letters", of("a"), "", []string{"a", ""}, 2},
		{"nearly a known one", of("a"), "a ", []string{"a", "a "}, 2},
		{"the longest", of("a"), long(api.MaxText), []string{"a", long(api.MaxText)}, 2},
		{"the last that has room", of(numbered(api.MaxBook - 1)...), "z", with(numbered(api.MaxBook-1), "z"), api.MaxBook},
		{"the first of a full book", full(), "text 1", numbered(api.MaxBook), 1},
		{"the last of a full book", full(), "text 120", numbered(api.MaxBook), api.MaxBook},
	} {
		b, n, e := Name(c.b, c.s)
		if !slices.Equal(b.Texts, c.want) || n != c.name || e != api.OK {
			t.Errorf("%s: %q, %v, %v, want %q, %v", c.what, b.Texts, n, e, c.want, c.name)
		}
	}
}

func TestNameRefuses(t *testing.T) {
	for _, c := range []struct {
		what string
		b    api.Book
		s    string
		want api.Errno
	}{
		{"too long", of("a"), long(api.MaxText + 1), api.ErrMany},
		{"too long in bytes, not in runes", api.Book{}, strings.Repeat("é", api.MaxText/2) + "x", api.ErrMany},
		{"no room", full(), "new", api.ErrFull},
		{"no room for one of no letters", full(), "", api.ErrFull},
		{"no room for the longest", full(), long(api.MaxText), api.ErrFull},
		{"too long is ahead of no room", full(), long(api.MaxText + 1), api.ErrMany},
	} {
		if b, n, e := Name(c.b, c.s); b.Texts != nil || n != 0 || e != c.want {
			t.Errorf("%s: %v, %v, %v, want %v", c.what, b, n, e, c.want)
		}
	}
}

func TestAll(t *testing.T) {
	for _, c := range []struct {
		what  string
		b     api.Book
		l     []string
		want  []string
		names []int
	}{
		{"nothing", api.Book{}, nil, nil, nil},
		{"nothing of some", of("a", "b"), []string{}, []string{"a", "b"}, nil},
		{"nothing of a full book", full(), nil, numbered(api.MaxBook), nil},
		{"new ones", api.Book{}, []string{"b", "a", ""}, []string{"b", "a", ""}, []int{1, 2, 3}},
		{"known ones", of("a", "b", "c"), []string{"c", "a", "c"}, []string{"a", "b", "c"}, []int{3, 1, 3}},
		{"both", of("a", "b"), []string{"c", "b", "d", "a"}, []string{"a", "b", "c", "d"}, []int{3, 2, 4, 1}},
		{"a new one twice", of("a"), []string{"b", "b", "c", "b"}, []string{"a", "b", "c"}, []int{2, 2, 3, 2}},
		{"known ones of a full book", full(), []string{"text 120", "text 1"}, numbered(api.MaxBook), []int{api.MaxBook, 1}},
		{"up to the last that has room", of(numbered(api.MaxBook - 2)...), []string{"y", "z", "y", "text 7", "z"}, with(numbered(api.MaxBook-2), "y", "z"), []int{119, 120, 119, 7, 120}},
		{"more than a book has, of few", of("a"), make([]string, 500), []string{"a", ""}, slices.Repeat([]int{2}, 500)},
	} {
		b, names, e := All(c.b, c.l)
		if !slices.Equal(b.Texts, c.want) || !slices.Equal(names, c.names) || e != api.OK {
			t.Errorf("%s: %q, %v, %v, want %q, %v", c.what, b.Texts, names, e, c.want, c.names)
		}
	}
}

func TestAllRefuses(t *testing.T) {
	tooLong := long(api.MaxText + 1)
	for _, c := range []struct {
		what string
		b    api.Book
		l    []string
		want api.Errno
	}{
		{"too long", api.Book{}, []string{tooLong}, api.ErrMany},
		{"the last one too long", of("a"), []string{"a", "b", tooLong}, api.ErrMany},
		{"no room", full(), []string{"text 3", "new"}, api.ErrFull},
		{"no room for the second", of(numbered(api.MaxBook - 1)...), []string{"y", "y", "z"}, api.ErrFull},
		{"more than a book has", api.Book{}, numbered(api.MaxBook + 1), api.ErrFull},
		{"the first text's error: too long", full(), []string{tooLong, "new"}, api.ErrMany},
		{"the first text's error: no room", full(), []string{"new", tooLong}, api.ErrFull},
		{"too long is ahead of no room, of one text", full(), []string{tooLong}, api.ErrMany},
	} {
		if b, names, e := All(c.b, c.l); b.Texts != nil || names != nil || e != c.want {
			t.Errorf("%s: %v, %v, %v, want %v", c.what, b, names, e, c.want)
		}
	}
}

func TestLook(t *testing.T) {
	for _, c := range []struct {
		b    api.Book
		n    int
		s    string
		want api.Errno
	}{
		{of("a", "b", ""), 1, "a", api.OK},
		{of("a", "b", ""), 2, "b", api.OK},
		{of("a", "b", ""), 3, "", api.OK},
		{full(), 1, "text 1", api.OK},
		{full(), api.MaxBook, "text 120", api.OK},
		{of(long(api.MaxText)), 1, long(api.MaxText), api.OK},
		{of("a", "b"), 0, "", api.ErrWho},
		{of("a", "b"), -1, "", api.ErrWho},
		{of("a", "b"), 3, "", api.ErrWho},
		{full(), api.MaxBook + 1, "", api.ErrWho},
		{of("a"), math.MinInt, "", api.ErrWho},
		{of("a"), math.MaxInt, "", api.ErrWho},
		{api.Book{}, 0, "", api.ErrWho},
		{api.Book{}, 1, "", api.ErrWho},
	} {
		if s, e := Look(c.b, c.n); s != c.s || e != c.want {
			t.Errorf("Look of %d in %d: %q, %v, want %q, %v", c.n, len(c.b.Texts), s, e, c.s, c.want)
		}
	}
}

// P4.3

// draw makes texts of few letters, so that many of them are drawn again.
func draw(seed, count int) []string {
	l := make([]string, count)
	for i := range l {
		seed = (seed*7919 + 104729) % 1000003
		l[i] = strconv.FormatInt(int64(seed%100), 2)
	}
	return l
}

func TestSameTextsHaveSameNames(t *testing.T) {
	for seed := range 50 {
		l := draw(seed, 300)
		b, names, e := All(api.Book{}, l)
		if e != api.OK || Check(b) != api.OK || len(names) != len(l) {
			t.Fatal(seed, names, e)
		}
		for i, s := range l {
			if text, e := Look(b, names[i]); text != s || e != api.OK {
				t.Fatalf("Look of the name of %q: %q, %v", s, text, e)
			}
			for j, other := range l[:i] {
				if (s == other) != (names[i] == names[j]) {
					t.Fatalf("%q has the name %d, and %q %d", s, names[i], other, names[j])
				}
			}
		}
	}
}

func TestAllIsNameOneAfterTheOther(t *testing.T) {
	for seed := range 50 {
		l := draw(seed, 200)
		b, _, _ := All(api.Book{}, l[:20])
		want, names, _ := All(b, l)
		for i, s := range l {
			next, n, e := Name(b, s)
			if n != names[i] || e != api.OK {
				t.Fatalf("Name(%q): %d, %v, want %d", s, n, e, names[i])
			}
			// Names that were told stay as they are.
			if !slices.Equal(next.Texts[:len(b.Texts)], b.Texts) {
				t.Fatalf("%q became %q", b.Texts, next.Texts)
			}
			b = next
		}
		if !slices.Equal(b.Texts, want.Texts) {
			t.Fatalf("%q, want %q", b.Texts, want.Texts)
		}
	}
}

// P2 of the whole document, where lists are handed in and out.

func TestCallsOnlyRead(t *testing.T) {
	// Spare room behind each list, in which a marker stands.
	texts, l := []string{"a", "b", "room", "room"}, []string{"c", "a", "room"}
	b := of(texts[:2]...)
	Check(b)
	Look(b, 1)
	Name(b, "c")
	All(b, l[:2])
	All(b, []string{"c", "d", long(api.MaxText + 1)})
	if !slices.Equal(texts, []string{"a", "b", "room", "room"}) || !slices.Equal(l, []string{"c", "a", "room"}) {
		t.Errorf("what was handed in is changed: %q, %q", texts, l)
	}
}

func TestCallsAnswerNewMemory(t *testing.T) {
	b, l := of("a", "b"), []string{"b", "a"}
	known, _, _ := Name(b, "a")
	fresh, _, _ := Name(b, "c")
	none, _, _ := All(b, nil)
	all, names, _ := All(b, l)
	for _, out := range []api.Book{known, fresh, none, all} {
		out.Texts[0] = "changed"
	}
	names[0] = 99
	if !slices.Equal(b.Texts, []string{"a", "b"}) || !slices.Equal(l, []string{"b", "a"}) {
		t.Errorf("an answer shares memory with what was handed in: %q, %q", b.Texts, l)
	}
	if again, names, _ := All(b, l); again.Texts[0] != "a" || !slices.Equal(names, []int{2, 1}) {
		t.Errorf("All keeps what it answered: %q, %v", again.Texts, names)
	}
}

func TestBooksOfOneBookShareNothing(t *testing.T) {
	b, _, _ := All(api.Book{}, []string{"a", "b", "c"})
	one, _, _ := Name(b, "one")
	two, _, _ := Name(b, "two")
	if !slices.Equal(one.Texts, []string{"a", "b", "c", "one"}) || !slices.Equal(two.Texts, []string{"a", "b", "c", "two"}) {
		t.Errorf("%q, %q", one.Texts, two.Texts)
	}
}

func TestRefusedCallsLeaveNothingBehind(t *testing.T) {
	b := of(numbered(api.MaxBook - 1)...)
	All(b, []string{"y", "z"})
	if out, n, e := Name(b, "z"); n != api.MaxBook || len(out.Texts) != api.MaxBook || e != api.OK {
		t.Errorf("behind a refused call: %d, %v", n, e)
	}
}
