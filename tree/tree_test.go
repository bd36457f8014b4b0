package tree

import (
	"fmt"
	"math"
	"math/rand"
	"regexp"
	"runtime"
	"slices"
	"strings"
	"testing"
	"time"

	"pargetry/api"
	"pargetry/fill"
	"pargetry/plain"
)

func num(n int) api.Tree { return api.Tree{Op: api.Num, N: n} }

func name(text string) api.Tree { return api.Tree{Op: api.Name, Text: text} }

func call(text string, n int) api.Tree { return api.Tree{Op: api.Call, Text: text, N: n} }

func list(n int) api.Tree { return api.Tree{Op: api.List, N: n} }

func let(text string) api.Tree { return api.Tree{Op: api.Let, Text: text} }

func note(text string) api.Tree { return api.Tree{Op: api.Note, Text: text} }

var (
	sum = api.Tree{Op: api.Sum}
	mul = api.Tree{Op: api.Mul}
	do  = api.Tree{Op: api.Do}
)

// row puts nodes into a list.
func row(nodes ...api.Tree) []api.Tree { return nodes }

// right gives a node of an Op that nothing is wrong with by itself, without kids if it may have none.
func right(op int) api.Tree {
	node := api.Tree{Op: op}
	switch op {
	case api.Name, api.Call, api.Let:
		node.Text = "a"
	}
	return node
}

// chain is a statement of n nodes: lists of one another, and a number at last.
func chain(n int) []api.Tree {
	t := append(row(do), slices.Repeat(row(list(1)), n-2)...)
	return append(t, num(0))
}

// told asks all calls, which must say the same error of a wrong statement, and nothing beside it.
func told(t *testing.T, s []api.Tree) api.Errno {
	t.Helper()
	e := plain.Told(Check(s))
	kids, errKids := Kids(s, 0)
	at, errAll := All([][]api.Tree{row(do, num(0)), s, nil})
	if e == api.OK {
		if errKids != nil || at != 2 || plain.Told(errAll) != api.ErrShape {
			t.Errorf("%v: OK, yet Kids %v, All %d, %v", s, errKids, at, errAll)
		}
		return e
	}
	if plain.Told(errKids) != e || plain.Told(errAll) != e {
		t.Errorf("%v: Check %v, Kids %v, All %v", s, e, errKids, errAll)
	}
	if len(kids) != 0 || at != 1 {
		t.Errorf("%v: %v, yet kids %v, number %d", s, e, kids, at)
	}
	return e
}

// asks holds what is told of a statement against what should be.
func asks(t *testing.T, s []api.Tree, want api.Errno) {
	t.Helper()
	if e := told(t, s); e != want {
		t.Errorf("%.300v: %v, want %v", fmt.Sprint(s), e, want)
	}
}

func TestNumbers(t *testing.T) {
	if api.MaxTree != 40 || api.MaxKids != 6 || api.MaxLines != 20 {
		t.Errorf("MaxTree %d, MaxKids %d, MaxLines %d", api.MaxTree, api.MaxKids, api.MaxLines)
	}
	for i, op := range []int{api.Num, api.Name, api.Call, api.List, api.Sum, api.Mul, api.Let, api.Do, api.Note} {
		if op != i+1 {
			t.Errorf("Op %d is %d", i+1, op)
		}
	}
}

// TestExample: let ab = f(1, [x, 2 + y * 3], g());
func TestExample(t *testing.T) {
	s := row(let("ab"), call("f", 3), num(1), list(2), name("x"), sum, num(2), mul, name("y"), num(3), call("g", 0))
	asks(t, s, api.OK)
	want := [][]int{{1}, {2, 3, 10}, nil, {4, 5}, nil, {6, 7}, nil, {8, 9}, nil, nil, nil}
	for i, w := range want {
		if got, err := Kids(s, i); err != nil || !slices.Equal(got, w) {
			t.Errorf("kids of %d: %v, %v, want %v", i, got, err, w)
		}
	}
}

// TestFirst: each Op as a statement's first node, with 0 to 8 expressions behind it.
func TestFirst(t *testing.T) {
	has := map[int]int{api.Let: 1, api.Do: 1, api.Note: 0}
	for op := api.Num; op <= api.Note; op++ {
		for n := range 9 {
			want := api.ErrShape
			if kids, first := has[op]; first && kids == n {
				want = api.OK
			}
			asks(t, append(row(right(op)), slices.Repeat(row(num(1)), n)...), want)
		}
	}
	// An expression is none, though it is whole by itself.
	for _, s := range [][]api.Tree{
		row(num(7)), row(name("a")), row(call("a", 0)), row(list(0)),
		row(call("f", 2), num(1), num(2)), row(list(1), name("a")),
		row(sum, num(1), num(2)), row(mul, num(1), num(2)),
	} {
		asks(t, s, api.ErrShape)
		asks(t, append(row(do), s...), api.OK)
		asks(t, append(row(let("a")), s...), api.OK)
		asks(t, append(row(note("a")), s...), api.ErrShape)
		asks(t, append(slices.Clone(s), do), api.ErrShape)
	}
}

// TestWithin: each Op within a statement, with 0 to 8 expressions behind it.
func TestWithin(t *testing.T) {
	has := map[int]int{api.Num: 0, api.Name: 0, api.Call: 0, api.List: 0, api.Sum: 2, api.Mul: 2}
	for op := api.Num; op <= api.Note; op++ {
		for n := range 9 {
			want := api.ErrShape
			if kids, within := has[op]; within && kids == n {
				want = api.OK
			}
			inner := append(row(right(op)), slices.Repeat(row(name("b")), n)...)
			asks(t, append(row(do), inner...), want)
			asks(t, append(row(let("x")), inner...), want)
			asks(t, append(row(do, list(2), num(1)), inner...), want)
			asks(t, append(row(do, call("f", 1)), inner...), want)
			asks(t, append(append(row(do, sum), inner...), num(9)), want)
			asks(t, append(append(row(do, mul), inner...), num(9)), want)
		}
	}
}

// TestOnlyFirst: Let, Do and Note nowhere but first, though they have what is theirs.
func TestOnlyFirst(t *testing.T) {
	for _, first := range []api.Tree{do, let("a")} {
		for _, inner := range [][]api.Tree{row(do, num(1)), row(let("b"), num(1)), row(note("")), row(note("b"))} {
			asks(t, append(row(first), inner...), api.ErrShape)
			asks(t, append(row(first, list(1)), inner...), api.ErrShape)
			asks(t, append(append(row(first, call("f", 2)), inner...), num(1)), api.ErrShape)
			asks(t, append(row(first, sum, num(1)), inner...), api.ErrShape)
			asks(t, append(append(row(first, mul), inner...), num(1)), api.ErrShape)
			asks(t, append(row(first, num(1)), inner...), api.ErrShape)
			asks(t, append(slices.Clone(inner), first, num(1)), api.ErrShape)
		}
	}
	// Two statements are not one.
	asks(t, row(note("a"), note("b")), api.ErrShape)
	asks(t, row(note(""), do, num(1)), api.ErrShape)
	asks(t, row(do, num(1), do, num(1)), api.ErrShape)
}

func TestNoSuchOp(t *testing.T) {
	for _, op := range []int{0, -1, -2, -9, 10, 11, 255, 257, 265, math.MinInt, math.MinInt + 9, math.MaxInt} {
		for _, node := range []api.Tree{{Op: op}, {Op: op, N: 1}, {Op: op, Text: "a"}, {Op: op, N: -1, Text: "A"}, {Op: op, N: 1000000, Text: "  "}} {
			asks(t, row(node), api.ErrRange)
			asks(t, row(do, node), api.ErrRange)
			asks(t, row(do, num(1), node), api.ErrRange)
			asks(t, row(do, sum, num(1), node), api.ErrRange)
		}
	}
}

func TestNum(t *testing.T) {
	for _, n := range []int{0, 1, 2, 6, 7, 40, 99999, 100000, 999998, 999999} {
		asks(t, row(do, num(n)), api.OK)
		asks(t, row(let("a"), sum, num(n), num(n)), api.OK)
		// As many kids as N says are no kids of a Num.
		if n > 0 && n < 8 {
			asks(t, append(row(do, num(n)), slices.Repeat(row(num(0)), n)...), api.ErrShape)
		}
	}
	for _, n := range []int{-1, -2, -999999, 1000000, 1000001, 1 << 31, 1 << 32, 1<<32 + 1, -1 << 32, math.MinInt, math.MaxInt} {
		asks(t, row(do, num(n)), api.ErrRange)
		asks(t, row(num(n)), api.ErrRange)
		asks(t, row(do, list(2), num(1), num(n)), api.ErrRange)
	}
}

// TestKidNumbers: N of Call and List, with so many kids, one less and one more.
func TestKidNumbers(t *testing.T) {
	for _, make := range []func(n int) api.Tree{list, func(n int) api.Tree { return call("f", n) }} {
		for n := range 7 {
			for k := range 9 {
				want := api.ErrShape
				if k == n {
					want = api.OK
				}
				kids := slices.Repeat(row(num(3)), k)
				asks(t, append(row(do, make(n)), kids...), want)
				asks(t, append(row(let("a"), make(1), make(n)), kids...), want)
				asks(t, append(append(row(do, sum, make(n)), kids...), make(0)), want)
			}
		}
		for _, n := range []int{-1, -6, 7, 8, 39, 999999, 1 << 32, 1<<32 + 1, -1 << 32, math.MinInt, math.MaxInt} {
			asks(t, row(make(n)), api.ErrRange)
			asks(t, row(do, make(n)), api.ErrRange)
			asks(t, append(row(do, make(n)), slices.Repeat(row(num(3)), min(max(n, 0), 30))...), api.ErrRange)
		}
	}
}

// TestFieldsItHasNot: N of each Op that has none, Text of each that has none.
func TestFieldsItHasNot(t *testing.T) {
	for _, op := range []int{api.Name, api.Sum, api.Mul, api.Let, api.Do, api.Note} {
		for _, n := range []int{1, 2, -1, 6, 7, 999999, 1000000, 1 << 32, math.MinInt, math.MaxInt} {
			for _, text := range []string{right(op).Text, "", "a", "A", "a  b", " "} {
				node := api.Tree{Op: op, N: n, Text: text}
				asks(t, row(node), api.ErrShape)
				asks(t, row(do, node), api.ErrShape)
				asks(t, append(row(node), slices.Repeat(row(num(1)), 2)...), api.ErrShape)
				// It is told of the node, ahead of what is wrong with the next one.
				asks(t, row(node, num(-1)), api.ErrShape)
			}
		}
	}
	for _, op := range []int{api.Num, api.List, api.Sum, api.Mul, api.Do} {
		for _, text := range []string{"a", "A", " ", "\x00", "let", "abcdefghi", strings.Repeat("a ", 61)} {
			node := api.Tree{Op: op, Text: text}
			asks(t, row(node), api.ErrShape)
			asks(t, row(do, node), api.ErrShape)
			asks(t, append(row(node), slices.Repeat(row(num(1)), 2)...), api.ErrShape)
			asks(t, row(node, name("")), api.ErrShape)
		}
	}
}

// named asks of a text whether it is a name, wherever one may stand.
func named(t *testing.T, text string, want api.Errno) {
	t.Helper()
	asks(t, row(do, name(text)), want)
	asks(t, row(let(text), num(1)), want)
	asks(t, row(do, call(text, 0)), want)
	asks(t, row(do, call(text, 1), num(1)), want)
	asks(t, row(let("a"), mul, num(1), name(text)), want)
	if want != api.OK {
		asks(t, row(name(text)), want)
		asks(t, row(call(text, 3)), want)
		asks(t, row(let(text)), want)
	}
}

func TestNames(t *testing.T) {
	for n := range 41 {
		want := api.OK
		if n < 1 || n > 8 {
			want = api.ErrSyntax
		}
		named(t, strings.Repeat("a", n), want)
		named(t, strings.Repeat("z", n), want)
		named(t, strings.Repeat("abcdefgh", 6)[:n], want)
	}
	named(t, "", api.ErrSyntax)
	named(t, "let", api.ErrSyntax)
	for _, text := range []string{"le", "lets", "letlet", "alet", "et", "tel", "do", "note", "x"} {
		named(t, text, api.OK)
	}
	for b := range 256 {
		want := api.ErrSyntax
		if 'a' <= b && b <= 'z' {
			want = api.OK
		}
		c := string([]byte{byte(b)})
		for _, text := range []string{c, c + "b", "b" + c, "b" + c + "b", "bbbbbbb" + c} {
			named(t, text, want)
		}
	}
	for _, text := range []string{"Let", "LET", "let ", " let", "a b", "a1", "1a", "12", "é", "aé", "世", "\xff", "a\n", strings.Repeat("a", 256), strings.Repeat("a", 264), strings.Repeat("a", 1<<20)} {
		named(t, text, api.ErrSyntax)
	}
}

func someBytes(n int) string { return strings.Repeat("abcdefghijklmnopqrstuvwxyz", n/26+1)[:n] }

// noted asks of a Note's Text what is told.
func noted(t *testing.T, text string, want api.Errno) {
	t.Helper()
	asks(t, row(note(text)), want)
	if want != api.OK {
		asks(t, row(note(text), note(text)), want)
		asks(t, row(do, note(text)), want)
		return
	}
	asks(t, row(note(text), num(1)), api.ErrShape)
}

func TestNotes(t *testing.T) {
	for _, text := range []string{"", "a", "a b", "let", "A1 !~ #", "#", "a;b, (c) let = 1", "\"", "Not a name"} {
		noted(t, text, api.OK)
	}
	// Blanks at the beginning, at the end, two behind each other.
	for _, text := range []string{" ", "  ", "   ", " a", "a ", "  a", "a  ", "a  b", "a   b", " a b", "a b ", "a b  c", "a  b c", " a ", "a b c  d e"} {
		noted(t, text, api.ErrSyntax)
	}
	for n := 1; n <= 45; n++ {
		want := api.OK
		if n > 20 {
			want = api.ErrSyntax
		}
		noted(t, someBytes(n), want)
		noted(t, "a "+someBytes(n), want)
		noted(t, someBytes(n)+" a", want)
		noted(t, "a "+someBytes(n)+" a", want)
	}
	for b := range 256 {
		want := api.ErrSyntax
		if 33 <= b && b <= 126 {
			want = api.OK
		}
		c := string([]byte{byte(b)})
		for _, text := range []string{c, c + "b", "b" + c, "a b" + c, c + " a", "a " + c} {
			noted(t, text, want)
		}
		if b != 32 {
			noted(t, "b"+c+"b", want)
			noted(t, "a b"+c+"b c", want)
		}
	}
	noted(t, "a b", api.OK)
	for _, text := range []string{"a\nb", "a\tb", "é", "a 世", "\xff", "a\r", "\u00a0", "a\u2003b"} {
		noted(t, text, api.ErrSyntax)
	}
}

// TestManyWords: as many as chapter 6 allows, and more.
func TestManyWords(t *testing.T) {
	of := func(word string, n int) string {
		return strings.Join(slices.Repeat([]string{word}, n), " ")
	}
	for _, word := range []string{"a", "~", someBytes(20)} {
		for _, n := range []int{1, 2, 59, 60} {
			noted(t, of(word, n), api.OK)
		}
		for _, n := range []int{61, 62, 100, 316, 10000} {
			noted(t, of(word, n), api.ErrFull)
			// Too many words are told ahead of words that are none.
			noted(t, of(word, n)+" \x00", api.ErrFull)
			noted(t, "\x00 "+of(word, n), api.ErrFull)
			noted(t, of(word, n)+" "+someBytes(21), api.ErrFull)
		}
	}
	for _, word := range []string{"\x00", someBytes(21), "é"} {
		for _, n := range []int{1, 59, 60} {
			noted(t, of(word, n), api.ErrSyntax)
		}
		noted(t, of(word, 61), api.ErrFull)
	}
	// A blank is between two words, and one of them may be empty.
	noted(t, of("a", 59)+" ", api.ErrSyntax)
	noted(t, " "+of("a", 59), api.ErrSyntax)
	noted(t, of("a", 60)+" ", api.ErrFull)
	noted(t, " "+of("a", 60), api.ErrFull)
	noted(t, strings.Repeat(" ", 59), api.ErrSyntax)
	noted(t, strings.Repeat(" ", 60), api.ErrFull)
}

// TestNoteAsFill: a Note's error is chapter 6's Check's, of all words there are.
func TestNoteAsFill(t *testing.T) {
	r := rand.New(rand.NewSource(8))
	parts := []string{"a", "bc", "!~", "", someBytes(20), someBytes(21), "\x7f", "é"}
	seen := map[api.Errno]int{}
	for range 6000 {
		words := make([]string, 1+r.Intn(70))
		for i := range words {
			words[i] = parts[r.Intn(3)]
			if r.Intn(60) == 0 {
				words[i] = parts[r.Intn(len(parts))]
			}
		}
		text := strings.Join(words, " ")
		if text == "" {
			continue
		}
		want := plain.Told(fill.Check(words))
		seen[want]++
		noted(t, text, want)
	}
	if seen[api.OK] < 500 || seen[api.ErrSyntax] < 500 || seen[api.ErrFull] < 500 {
		t.Errorf("not enough of each: %v", seen)
	}
}

func TestSize(t *testing.T) {
	for _, c := range []struct {
		s    []api.Tree
		want api.Errno
	}{
		{nil, api.ErrShape},
		{row(), api.ErrShape},
		{make([]api.Tree, 0, 50), api.ErrShape},
		{chain(2), api.OK},
		{chain(39), api.OK},
		{chain(40), api.OK},
		{chain(41), api.ErrFull},
		{chain(42), api.ErrFull},
		{chain(5000), api.ErrFull},
		{chain(41)[:40], api.ErrShape},
		{chain(41)[1:], api.ErrShape},
		{chain(40)[:39], api.ErrShape},
		{make([]api.Tree, 40), api.ErrRange},
		{make([]api.Tree, 41), api.ErrFull},
		{make([]api.Tree, 296), api.ErrFull},
		{append(row(do), slices.Repeat(row(sum), 39)...), api.ErrShape},
		{append(row(do), slices.Repeat(row(list(6)), 39)...), api.ErrShape},
		{append(row(do), slices.Repeat(row(num(1)), 39)...), api.ErrShape},
		{append(append(row(do), slices.Repeat(row(sum), 19)...), slices.Repeat(row(num(1)), 20)...), api.OK},
		{append(append(row(do), slices.Repeat(row(mul), 20)...), slices.Repeat(row(num(1)), 19)...), api.ErrShape},
		{append(append(row(do), slices.Repeat(row(mul), 20)...), slices.Repeat(row(num(1)), 21)...), api.ErrFull},
		{slices.Repeat(row(note("a")), 40), api.ErrShape},
		{slices.Repeat(row(note("a")), 41), api.ErrFull},
	} {
		asks(t, c.s, c.want)
	}
}

// wrong are nodes that something is wrong with by themselves, and what is told of each, of several things the first.
var wrong = []struct {
	node api.Tree
	want api.Errno
}{
	{api.Tree{}, api.ErrRange},
	{api.Tree{Op: 10, N: 3, Text: "A"}, api.ErrRange},
	{num(-1), api.ErrRange},
	{num(1000000), api.ErrRange},
	{api.Tree{Op: api.Num, N: -1, Text: "a"}, api.ErrRange},
	{api.Tree{Op: api.List, N: 7, Text: "a"}, api.ErrRange},
	{call("f", 7), api.ErrRange},
	{call("", 7), api.ErrRange},
	{call("let", -1), api.ErrRange},
	{api.Tree{Op: api.Num, N: 999999, Text: "a"}, api.ErrShape},
	{api.Tree{Op: api.List, N: 6, Text: "A"}, api.ErrShape},
	{api.Tree{Op: api.Sum, N: 7, Text: "A"}, api.ErrShape},
	{api.Tree{Op: api.Mul, Text: "a"}, api.ErrShape},
	{api.Tree{Op: api.Do, N: -1}, api.ErrShape},
	{api.Tree{Op: api.Name, N: 1, Text: "A"}, api.ErrShape},
	{api.Tree{Op: api.Let, N: 7, Text: ""}, api.ErrShape},
	{api.Tree{Op: api.Note, N: 1, Text: "a  b"}, api.ErrShape},
	{api.Tree{Op: api.Note, N: -1, Text: strings.Repeat("a ", 61)}, api.ErrShape},
	{name("A"), api.ErrSyntax},
	{call("let", 6), api.ErrSyntax},
	{call("", 0), api.ErrSyntax},
	{let("abcdefghi"), api.ErrSyntax},
	{note("a  b"), api.ErrSyntax},
	{note(strings.Repeat("a ", 61)), api.ErrFull},
}

// TestOrder: too many nodes; node by node; that they are just one statement.
func TestOrder(t *testing.T) {
	for _, a := range wrong {
		asks(t, row(a.node), a.want)
		// Wherever it stands: the shape of all comes behind.
		for _, s := range [][]api.Tree{row(do, a.node), row(num(1), a.node), row(a.node, num(1)), row(note("a"), do, a.node), row(do, sum, a.node), row(do, num(1), a.node)} {
			asks(t, s, a.want)
		}
		for _, b := range wrong {
			for _, s := range [][]api.Tree{
				row(a.node, b.node),
				row(do, a.node, b.node),
				row(do, sum, a.node, b.node),
				row(note("a"), a.node, let("a"), b.node),
			} {
				asks(t, s, a.want)
			}
		}
		for n := 2; n <= 39; n++ {
			asks(t, append(chain(n), a.node), a.want)
			asks(t, append(row(a.node), chain(n)...), a.want)
		}
		asks(t, append(chain(40), a.node), api.ErrFull)
		asks(t, append(row(a.node), chain(40)...), api.ErrFull)
		asks(t, slices.Repeat(row(a.node), 41), api.ErrFull)
		asks(t, slices.Repeat(row(a.node), 40), a.want)
	}
}

func TestKidsBeyond(t *testing.T) {
	for _, s := range [][]api.Tree{row(note("")), row(note("a b")), row(do, num(3)), row(let("a"), sum, num(1), name("b")), chain(40)} {
		for _, i := range []int{math.MinInt, -1 << 32, -40, -2, -1, len(s), len(s) + 1, 41, 1 << 32, math.MaxInt} {
			if got, err := Kids(s, i); len(got) != 0 || plain.Told(err) != api.ErrRange {
				t.Errorf("%v at %d: %v, %v", s, i, got, err)
			}
		}
	}
	if got, err := Kids(row(note("a")), 0); len(got) != 0 || err != nil {
		t.Errorf("kids of a note: %v, %v", got, err)
	}
}

// TestKidsChecksFirst: what is wrong with the statement is told, wherever the node is.
func TestKidsChecksFirst(t *testing.T) {
	ask := func(s []api.Tree, want api.Errno) {
		t.Helper()
		for _, i := range []int{math.MinInt, -1, 0, 1, 2, 3, 40, 41, math.MaxInt} {
			if got, err := Kids(s, i); len(got) != 0 || plain.Told(err) != want {
				t.Errorf("%v at %d: %v, %v, want %v", s, i, got, err, want)
			}
		}
	}
	ask(nil, api.ErrShape)
	ask(row(num(1)), api.ErrShape)
	ask(row(do, sum, num(1)), api.ErrShape)
	ask(row(do, num(1), num(1)), api.ErrShape)
	ask(row(do, list(6), num(1)), api.ErrShape)
	ask(chain(41), api.ErrFull)
	for _, w := range wrong {
		ask(row(do, sum, num(1), w.node), w.want)
	}
}

// TestManyKids: as many as there may be, with kids of their own.
func TestManyKids(t *testing.T) {
	s := row(do, call("f", 6))
	var at []int
	for i := range 6 {
		at = append(at, len(s))
		s = append(s, list(i))
		s = append(s, slices.Repeat(row(num(6)), i)...)
	}
	if got, err := Kids(s, 1); err != nil || !slices.Equal(got, at) {
		t.Errorf("%v, %v, want %v", got, err, at)
	}
	for i, place := range at {
		got, err := Kids(s, place)
		if err != nil || len(got) != i {
			t.Fatalf("list of %d: %v, %v", i, got, err)
		}
		for k, kid := range got {
			if kid != place+1+k {
				t.Errorf("list of %d: %v", i, got)
			}
		}
	}
	for i := range 39 {
		if got, err := Kids(chain(40), i); err != nil || !slices.Equal(got, []int{i + 1}) {
			t.Errorf("chain at %d: %v, %v", i, got, err)
		}
	}
}

// grown is a statement made from its top, its kids told as it grows.
type grown struct {
	s    []api.Tree
	kids [][]int
}

func (g *grown) put(node api.Tree) int {
	g.s, g.kids = append(g.s, node), append(g.kids, nil)
	return len(g.s) - 1
}

func (g *grown) grow(r *rand.Rand, deepest int) int {
	op := 1 + r.Intn(6)
	if deepest <= 0 {
		op = 1 + r.Intn(2)
	}
	node := right(op)
	n := 0
	switch op {
	case api.Num:
		node.N = r.Intn(1000000)
	case api.Call, api.List:
		n = r.Intn(7)
		node.N = n
	case api.Sum, api.Mul:
		n = 2
	}
	if node.Text != "" {
		node.Text = someBytes(1 + r.Intn(8))
	}
	at := g.put(node)
	for range n {
		kid := g.grow(r, deepest-1)
		g.kids[at] = append(g.kids[at], kid)
	}
	return at
}

func statement(r *rand.Rand) grown {
	var g grown
	g.put([]api.Tree{do, let("abcdefgh")}[r.Intn(2)])
	g.kids[0] = []int{g.grow(r, r.Intn(4))}
	return g
}

// TestGrown: statements of all forms, whole and with nodes taken from or put to them.
func TestGrown(t *testing.T) {
	r := rand.New(rand.NewSource(80))
	whole := 0
	for range 5000 {
		g := statement(r)
		kept := slices.Clone(g.s)
		if len(g.s) > 40 {
			asks(t, g.s, api.ErrFull)
			continue
		}
		whole++
		asks(t, g.s, api.OK)
		for i, want := range g.kids {
			if got, err := Kids(g.s, i); err != nil || !slices.Equal(got, want) {
				t.Fatalf("%v at %d: %v, %v, want %v", g.s, i, got, err, want)
			}
		}
		for i := range g.s {
			asks(t, g.s[:i], api.ErrShape)
			asks(t, g.s[i+1:], api.ErrShape)
		}
		if len(g.s) < 40 {
			asks(t, append(slices.Clone(g.s), num(0)), api.ErrShape)
			asks(t, append(row(do), g.s...), api.ErrShape)
		}
		if !slices.Equal(g.s, kept) {
			t.Fatalf("%v was written into", kept)
		}
	}
	if whole < 2000 {
		t.Errorf("only %d are not too long", whole)
	}
}

// letters writes nodes a letter each, so that a pattern tells whether they are a statement: another road to the same.
func letters(s []api.Tree) string {
	var b strings.Builder
	for _, node := range s {
		switch node.Op {
		case api.Call, api.List:
			fmt.Fprint(&b, node.N)
		default:
			b.WriteByte("?vv--++fff"[node.Op])
		}
	}
	return b.String()
}

var kidLess = regexp.MustCompile(`\+vv|0|1v|2vv|3vvv|4vvvv|5v{5}|6v{6}`)

// isOne folds what has all its kids into one letter, as long as that can be done.
func isOne(s []api.Tree) bool {
	if len(s) == 0 || s[0].Op < api.Let {
		return false
	}
	if s[0].Op == api.Note {
		return len(s) == 1
	}
	for text := letters(s[1:]); ; {
		next := kidLess.ReplaceAllString(text, "v")
		if next == text {
			return text == "v"
		}
		text = next
	}
}

// TestRows: rows of nodes of which each is right, whatever they are together.
func TestRows(t *testing.T) {
	nodes := row(num(5), name("a"), call("f", 0), call("f", 1), list(2), sum, mul, let("a"), do, note("a"))
	rows := [][]api.Tree{nil}
	good := 0
	for range 6 {
		var more [][]api.Tree
		for _, s := range rows {
			want := api.ErrShape
			if isOne(s) {
				want = api.OK
				good++
			}
			if e := plain.Told(Check(s)); e != want {
				t.Fatalf("%v: %v, want %v", s, e, want)
			}
			for _, node := range nodes {
				more = append(more, append(slices.Clone(s), node))
			}
		}
		rows = more
	}
	if good < 200 {
		t.Errorf("only %d are statements", good)
	}
}

// all asks what is told of a program.
func all(t *testing.T, p [][]api.Tree, at int, want api.Errno) {
	t.Helper()
	if got, err := All(p); got != at || plain.Told(err) != want {
		t.Errorf("%.400s: %d, %v, want %d, %v", fmt.Sprint(p), got, err, at, want)
	}
}

// lines makes a program of n statements that nothing is wrong with.
func lines(n int) [][]api.Tree {
	forms := [][]api.Tree{row(do, num(1)), row(note("a b")), row(let("x"), sum, num(1), name("y")), row(note(""))}
	var p [][]api.Tree
	for i := range n {
		p = append(p, forms[i%4])
	}
	return p
}

func TestAllSize(t *testing.T) {
	all(t, nil, 0, api.OK)
	all(t, [][]api.Tree{}, 0, api.OK)
	for n := range 21 {
		all(t, lines(n), 0, api.OK)
		all(t, slices.Repeat([][]api.Tree{row(do, num(1))}, n), 0, api.OK)
	}
	for _, n := range []int{21, 22, 40, 256, 276, 10000} {
		all(t, lines(n), 0, api.ErrFull)
		// Too many are told ahead of all else.
		all(t, make([][]api.Tree, n), 0, api.ErrFull)
		all(t, slices.Repeat([][]api.Tree{row(num(-1))}, n), 0, api.ErrFull)
		all(t, slices.Repeat([][]api.Tree{row(note(""))}, n), 0, api.ErrFull)
	}
	all(t, make([][]api.Tree, 20), 0, api.ErrShape)
	all(t, slices.Repeat([][]api.Tree{row(note(""))}, 20), 1, api.ErrShape)
}

// TestAllWrong: a wrong statement at each place, alone and with another one behind it.
func TestAllWrong(t *testing.T) {
	type bad struct {
		s    []api.Tree
		want api.Errno
	}
	bads := []bad{{nil, api.ErrShape}, {row(num(1)), api.ErrShape}, {row(do), api.ErrShape}, {chain(41), api.ErrFull}, {row(note("a"), note("b")), api.ErrShape}}
	for _, w := range wrong {
		bads = append(bads, bad{row(do, w.node), w.want}, bad{row(w.node), w.want})
	}
	for _, n := range []int{1, 2, 3, 19, 20} {
		for i := range n {
			for _, a := range bads {
				p := lines(n)
				p[i] = a.s
				all(t, p, i, a.want)
				for _, k := range []int{i + 1, n - 1} {
					if k <= i || k >= n {
						continue
					}
					for _, b := range bads {
						p[k] = b.s
						all(t, p, i, a.want)
					}
				}
			}
		}
	}
	for i := range 21 {
		p := lines(21)
		p[i] = row(num(-1))
		all(t, p, 0, api.ErrFull)
	}
}

// TestNoteBehindNote: the second one is wrong, whatever their words.
func TestNoteBehindNote(t *testing.T) {
	other := row(do, num(1))
	for _, a := range []string{"", "a", "a b"} {
		for _, b := range []string{"", "a", "c"} {
			for n := 2; n <= 20; n++ {
				for i := range n - 1 {
					p := slices.Repeat([][]api.Tree{other}, n)
					p[i], p[i+1] = row(note(a)), row(note(b))
					all(t, p, i+1, api.ErrShape)
				}
			}
			// What stands between them makes them two.
			all(t, [][]api.Tree{row(note(a)), other, row(note(b))}, 0, api.OK)
			all(t, [][]api.Tree{other, row(note(a)), row(let("a"), num(1)), row(note(b)), other}, 0, api.OK)
			all(t, [][]api.Tree{row(note(a)), row(note(b)), row(note(a))}, 1, api.ErrShape)
		}
	}
	all(t, [][]api.Tree{row(note("a"))}, 0, api.OK)
}

// TestNoteAndWrong: one by one, all that is said of one ahead of the next.
func TestNoteAndWrong(t *testing.T) {
	a, two := row(note("a")), row(note("a"), num(1))
	other, full := row(do, num(1)), row(note(strings.Repeat("a ", 61)))
	blanks := row(note("a  b"))
	for _, c := range []struct {
		p    [][]api.Tree
		at   int
		want api.Errno
	}{
		{[][]api.Tree{a, row(num(-1))}, 1, api.ErrRange},
		{[][]api.Tree{row(num(-1)), a}, 0, api.ErrRange},
		{[][]api.Tree{a, row(num(-1)), a}, 1, api.ErrRange},
		{[][]api.Tree{a, a, row(num(-1))}, 1, api.ErrShape},
		{[][]api.Tree{row(num(-1)), a, a}, 0, api.ErrRange},
		{[][]api.Tree{other, row(num(-1)), a, a}, 1, api.ErrRange},
		{[][]api.Tree{other, a, a, row(num(-1))}, 2, api.ErrShape},
		// Of a note behind a note its own Check comes first.
		{[][]api.Tree{a, full}, 1, api.ErrFull},
		{[][]api.Tree{a, blanks}, 1, api.ErrSyntax},
		{[][]api.Tree{blanks, a}, 0, api.ErrSyntax},
		{[][]api.Tree{a, two}, 1, api.ErrShape},
		{[][]api.Tree{two, a}, 0, api.ErrShape},
		{[][]api.Tree{a, nil}, 1, api.ErrShape},
		{[][]api.Tree{nil, a}, 0, api.ErrShape},
		{[][]api.Tree{a, nil, a}, 1, api.ErrShape},
		{[][]api.Tree{a, row(do, note("a"))}, 1, api.ErrShape},
	} {
		all(t, c.p, c.at, c.want)
	}
}

// TestAllOfSome: programs of right and wrong statements, told by Check of each.
func TestAllOfSome(t *testing.T) {
	r := rand.New(rand.NewSource(88))
	seen := map[api.Errno]int{}
	for range 10000 {
		var p [][]api.Tree
		for range r.Intn(22) {
			switch k := r.Intn(40); {
			case k == 0:
				p = append(p, row(do, wrong[r.Intn(len(wrong))].node))
			case k < 8:
				p = append(p, row(note("a b")))
			default:
				p = append(p, row(do, num(k)))
			}
		}
		at, want := 0, api.OK
		if len(p) > 20 {
			want = api.ErrFull
		}
		for i := 0; i < len(p) && want == api.OK; i++ {
			want = plain.Told(Check(p[i]))
			if want == api.OK && i > 0 && p[i][0].Op == api.Note && p[i-1][0].Op == api.Note {
				want = api.ErrShape
			}
			if want != api.OK {
				at = i
			}
		}
		seen[want]++
		all(t, p, at, want)
	}
	for _, e := range []api.Errno{api.OK, api.ErrRange, api.ErrShape, api.ErrFull, api.ErrSyntax} {
		if seen[e] < 50 {
			t.Errorf("not enough of %v: %v", e, seen)
		}
	}
}

// TestBehindTheLength: what lies behind a list's length is neither read nor written.
func TestBehindTheLength(t *testing.T) {
	whole := row(do, sum, num(1), list(1), name("a"), api.Tree{Op: 77})
	kept := slices.Clone(whole)
	asks(t, whole[:4], api.ErrShape)
	asks(t, whole[:5], api.OK)
	asks(t, whole[:0], api.ErrShape)
	if got, err := Kids(whole[:5], 5); len(got) != 0 || plain.Told(err) != api.ErrRange {
		t.Errorf("%v, %v", got, err)
	}
	if !slices.Equal(whole, kept) {
		t.Errorf("%v was %v", whole, kept)
	}
	p := [][]api.Tree{row(do, num(1)), row(note("a")), row(note("b")), nil}
	all(t, p[:0], 0, api.OK)
	all(t, p[:2], 0, api.OK)
	all(t, p[1:2], 0, api.OK)
	all(t, p[2:3], 0, api.OK)
	all(t, p, 2, api.ErrShape)
	if len(p[3]) != 0 || !slices.Equal(p[2], row(note("b"))) {
		t.Errorf("%v was written into", p)
	}
}

// TestNothingIsWritten: statements and programs stay as they were.
func TestNothingIsWritten(t *testing.T) {
	p := [][]api.Tree{row(do, sum, num(1), list(1), name("a")), row(note("a b c")), row(let("x"), call("f", 2), num(3), num(4)), row(note("d")), row(note("e")), row(do, name("A")), nil}
	var kept [][]api.Tree
	for _, s := range p {
		kept = append(kept, slices.Clone(s))
	}
	for n := range len(p) + 1 {
		All(p[:n])
		for _, s := range p[:n] {
			Check(s)
			for i := -1; i <= len(s); i++ {
				Kids(s, i)
			}
		}
		for i := range p {
			if !slices.Equal(p[i], kept[i]) {
				t.Fatalf("%v was %v", p[i], kept[i])
			}
		}
	}
}

// TestFreshMemory: what comes out is the caller's, whatever becomes of another answer.
func TestFreshMemory(t *testing.T) {
	s := row(do, call("f", 6), num(1), num(2), num(3), num(4), num(5), num(6))
	want := []int{2, 3, 4, 5, 6, 7}
	first, err := Kids(s, 1)
	if err != nil {
		t.Fatal(err)
	}
	second, _ := Kids(s, 1)
	if &first[0] == &second[0] {
		t.Error("two answers share memory")
	}
	for i := range second[:cap(second)] {
		second[:cap(second)][i] = -1
	}
	third, _ := Kids(s, 1)
	if !slices.Equal(first, want) || !slices.Equal(third, want) {
		t.Errorf("%v, %v, want %v", first, third, want)
	}
	// What was answered stays when the statement is written into.
	s[1] = list(0)
	if !slices.Equal(first, want) {
		t.Errorf("%v, want %v", first, want)
	}
	if got, err := Kids(s, 1); len(got) != 0 || plain.Told(err) != api.ErrShape {
		t.Errorf("of another statement: %v, %v", got, err)
	}
}

// TestNothingIsKept: what is asked next hangs on nothing that was asked ahead of it.
func TestNothingIsKept(t *testing.T) {
	for _, ahead := range [][]api.Tree{nil, row(note("a")), row(num(-1)), chain(40), chain(41), row(do, sum, num(1), num(2))} {
		Check(ahead)
		Kids(ahead, 1)
		All([][]api.Tree{ahead, row(note("a"))})
		asks(t, row(note("a")), api.OK)
		all(t, [][]api.Tree{row(note("a"))}, 0, api.OK)
		if got, err := Kids(row(do, sum, num(1), num(2)), 1); err != nil || !slices.Equal(got, []int{2, 3}) {
			t.Errorf("%v, %v", got, err)
		}
	}
}

// TestSoon: very long texts take little time, and little memory beside their own.
func TestSoon(t *testing.T) {
	long := strings.Repeat(" ", 1<<26)
	var ahead, behind runtime.MemStats
	runtime.ReadMemStats(&ahead)
	start := time.Now()
	if e := plain.Told(Check(row(note(long)))); e != api.ErrFull {
		t.Errorf("a note of blanks: %v", e)
	}
	if e := plain.Told(Check(row(do, name(long)))); e != api.ErrSyntax {
		t.Errorf("a name of blanks: %v", e)
	}
	took := time.Since(start)
	runtime.ReadMemStats(&behind)
	if more := behind.TotalAlloc - ahead.TotalAlloc; took > 5*time.Second || more > 1<<20 {
		t.Errorf("%v, %d bytes", took, more)
	}
}
