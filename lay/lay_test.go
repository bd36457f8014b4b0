package lay

import (
	"fmt"
	"math"
	"math/rand"
	"slices"
	"strings"
	"testing"
	"time"
	"unsafe"

	"pargetry/api"
	"pargetry/best"
	"pargetry/doc"
	"pargetry/flat"
	"pargetry/plain"
	"pargetry/syn"
	"pargetry/tree"
	"pargetry/way"
)

func num(n int) api.Tree { return api.Tree{Op: api.Num, N: n} }

func name(text string) api.Tree { return api.Tree{Op: api.Name, Text: text} }

func call(text string, n int) api.Tree { return api.Tree{Op: api.Call, Text: text, N: n} }

func list(n int) api.Tree { return api.Tree{Op: api.List, N: n} }

func let(text string) api.Tree { return api.Tree{Op: api.Let, Text: text} }

func note(text string) api.Tree { return api.Tree{Op: api.Note, Text: text} }

var (
	sum = api.Tree{Op: api.Sum}
	mul = api.Tree{Op: api.Mul}
	do  = api.Tree{Op: api.Do}
)

// row puts nodes into a list.
func row(nodes ...api.Tree) []api.Tree { return nodes }

// w is a Word of a doc.
func w(text string) api.Node { return api.Node{Op: api.Word, Text: text} }

// The other nodes that may be in a doc of a statement.
var (
	aBlank = api.Node{Op: api.Blank}
	aSoft  = api.Node{Op: api.Soft}
	aBoth  = api.Node{Op: api.Both}
	aDeep  = api.Node{Op: api.Deep, N: 2}
	aGroup = api.Node{Op: api.Group}
)

// bare takes blanks and new lines out of a text.
func bare(text string) string { return strings.NewReplacer(" ", "", "\n", "").Replace(text) }

// printed gives the line of a statement, without its end.
func printed(t *testing.T, s []api.Tree) string {
	t.Helper()
	text, err := syn.Print([][]api.Tree{s})
	if err != nil {
		t.Fatalf("%v: %v", s, err)
	}
	return strings.TrimSuffix(text, "\n")
}

// is asks that a statement has just this doc, as chapter 2 writes it, and that all holds of it.
func is(t *testing.T, s []api.Tree, want string) {
	t.Helper()
	kept := slices.Clone(s)
	d, err := Doc(s)
	if err != nil {
		t.Fatalf("%v: %v", s, err)
	}
	if got, err := doc.Text(d); got != want || err != nil {
		t.Errorf("%v:\n got %s, %v\nwant %s", s, got, err, want)
	}
	if !slices.Equal(s, kept) {
		t.Errorf("%v was %v", s, kept)
	}
	holds(t, s, d)
	words, err := Note(s)
	if len(words) != 0 || plain.Told(err) != api.ErrShape {
		t.Errorf("%v: words %v, %v", s, words, err)
	}
}

// holds asks what is true of the doc of each statement.
func holds(t *testing.T, s []api.Tree, d []api.Node) {
	t.Helper()
	if err := doc.Check(d); err != nil {
		t.Fatalf("%v: %v, %v", s, d, err)
	}
	line := printed(t, s)
	if got, is, err := flat.Flat(d); got != line || !is || err != nil {
		t.Errorf("%v: flat %q, %v, %v, want %q", s, got, is, err, line)
	}
}

// laidWays asks that a doc is that line but for blanks and new lines, whatever way it is laid, and the same statement.
func laidWays(t *testing.T, s []api.Tree, ways ...[]int) {
	t.Helper()
	d, err := Doc(s)
	if err != nil {
		t.Fatalf("%v: %v", s, err)
	}
	line := bare(printed(t, s))
	for _, way1 := range ways {
		text, err := way.Show(d, way1)
		if err != nil || bare(text) != line {
			t.Fatalf("%v by %v: %q, %v, want %q", s, way1, text, err, line)
		}
		p, _, err := syn.Parse(text)
		if err != nil || len(p) != 1 || !slices.Equal(p[0], s) {
			t.Fatalf("%v by %v: %q is read as %v, %v", s, way1, text, p, err)
		}
	}
}

// allWays gives all ways of the doc of a statement; none if there are too many.
func allWays(t *testing.T, s []api.Tree) [][]int {
	t.Helper()
	d, err := Doc(s)
	if err != nil {
		t.Fatalf("%v: %v", s, err)
	}
	ways, err := way.All(d)
	if err != nil && plain.Told(err) != api.ErrFull {
		t.Fatalf("%v: %v", s, err)
	}
	return ways
}

// strolled gives a way of a doc, choice by choice, and the nodes behind the doc.
func strolled(d []api.Node, choose func() int) (way1 []int, rest []api.Node) {
	rest = d[1:]
	switch d[0].Op {
	case api.Both:
		first, behind := strolled(rest, choose)
		second, behind := strolled(behind, choose)
		return append(first, second...), behind
	case api.Deep:
		return strolled(rest, choose)
	case api.Group:
		if choose() == 0 {
			_, behind := strolled(rest, func() int { return 0 })
			return []int{0}, behind
		}
		inner, behind := strolled(rest, choose)
		return append([]int{1}, inner...), behind
	}
	return nil, rest
}

// refuse asks that neither call answers anything but an error.
func refuse(t *testing.T, s []api.Tree, want api.Errno) {
	t.Helper()
	d, err := Doc(s)
	if len(d) != 0 || plain.Told(err) != want {
		t.Errorf("%.300s: Doc %v, %v, want %v", fmt.Sprint(s), d, err, want)
	}
	words, err := Note(s)
	if len(words) != 0 || plain.Told(err) != want {
		t.Errorf("%.300s: Note %v, %v, want %v", fmt.Sprint(s), words, err, want)
	}
	if err := tree.Check(s); plain.Told(err) != want {
		t.Errorf("%.300s: Check %v, want %v", fmt.Sprint(s), err, want)
	}
}

// shown asks that an expression has this doc, wherever it stands.
func shown(t *testing.T, e []api.Tree, want string) {
	t.Helper()
	is(t, append(row(do), e...), `(`+want+`";")`)
	is(t, append(row(let("abcdefgh")), e...), `[("let abcdefgh ="2>(_(`+want+`";")))]`)
	is(t, append(row(do, list(1)), e...), `([("["(2>(.`+want+`)(."]")))]";")`)
	is(t, append(append(row(do, call("f", 3), num(1)), e...), name("b")), `([("f("(2>(.(("1"",")(_((`+want+`",")(_"b")))))(.")")))]";")`)
}

func TestExample(t *testing.T) {
	is(t, row(do, list(1), num(7)), `([("["(2>(."7")(."]")))]";")`)
	// That of README.md.
	s := row(let("x"), sum, num(1), call("f", 1), name("a"))
	is(t, s, `[("let x ="2>(_([("1"2>(_("+ "[("f("(2>(."a")(.")")))])))]";")))]`)
	d, _ := Doc(s)
	text, _, _, err := best.Best(d, 12)
	if want := "let x =\n  1 + f(a);"; text != want || err != nil {
		t.Errorf("%q, %v, want %q", text, err, want)
	}
}

// TestNodes: the nodes themselves, with all their fields.
func TestNodes(t *testing.T) {
	for _, c := range []struct {
		s    []api.Tree
		want []api.Node
	}{
		{row(do, num(12)), []api.Node{aBoth, w("12"), w(";")}},
		{row(do, name("ab")), []api.Node{aBoth, w("ab"), w(";")}},
		{row(do, call("f", 0)), []api.Node{aBoth, w("f()"), w(";")}},
		{row(do, list(0)), []api.Node{aBoth, w("[]"), w(";")}},
		{row(do, call("f", 1), num(1)), []api.Node{aBoth, aGroup, aBoth, w("f("), aBoth, aDeep, aBoth, aSoft, w("1"), aBoth, aSoft, w(")"), w(";")}},
		{row(do, list(1), num(1)), []api.Node{aBoth, aGroup, aBoth, w("["), aBoth, aDeep, aBoth, aSoft, w("1"), aBoth, aSoft, w("]"), w(";")}},
		{row(do, list(2), num(1), name("b")), []api.Node{aBoth, aGroup, aBoth, w("["), aBoth, aDeep, aBoth, aSoft, aBoth, aBoth, w("1"), w(","), aBoth, aBlank, w("b"), aBoth, aSoft, w("]"), w(";")}},
		{row(do, sum, num(1), name("b")), []api.Node{aBoth, aGroup, aBoth, w("1"), aDeep, aBoth, aBlank, aBoth, w("+ "), w("b"), w(";")}},
		{row(do, mul, num(1), name("b")), []api.Node{aBoth, aGroup, aBoth, w("1"), aDeep, aBoth, aBlank, aBoth, w("* "), w("b"), w(";")}},
		{row(let("x"), num(1)), []api.Node{aGroup, aBoth, w("let x ="), aDeep, aBoth, aBlank, aBoth, w("1"), w(";")}},
		{row(do, mul, sum, num(1), num(2), num(3)), []api.Node{aBoth, aGroup, aBoth, aBoth, w("("), aBoth, aGroup, aBoth, w("1"), aDeep, aBoth, aBlank, aBoth, w("+ "), w("2"), w(")"), aDeep, aBoth, aBlank, aBoth, w("* "), w("3"), w(";")}},
	} {
		if d, err := Doc(c.s); !slices.Equal(d, c.want) || err != nil {
			t.Errorf("%v:\n got %v, %v\nwant %v", c.s, d, err, c.want)
		}
	}
}

// TestKinds: each kind of expression as the kid of a Let and of a Do, and within others.
func TestKinds(t *testing.T) {
	for _, n := range []int{0, 1, 9, 10, 11, 99, 100, 12345, 99999, 100000, 999998, 999999} {
		shown(t, row(num(n)), `"`+fmt.Sprint(n)+`"`)
	}
	for _, text := range []string{"a", "z", "le", "lets", "letlet", "do", "note", "abcdefgh", "zzzzzzzz"} {
		shown(t, row(name(text)), `"`+text+`"`)
		shown(t, row(call(text, 0)), `"`+text+`()"`)
		shown(t, row(call(text, 1), name(text)), `[("`+text+`("(2>(."`+text+`")(.")")))]`)
		is(t, row(let(text), name(text)), `[("let `+text+` ="2>(_("`+text+`"";")))]`)
	}
	shown(t, row(list(0)), `"[]"`)
	shown(t, row(list(1), list(0)), `[("["(2>(."[]")(."]")))]`)
	shown(t, row(list(2), num(1), num(2)), `[("["(2>(.(("1"",")(_"2")))(."]")))]`)
	shown(t, row(call("f", 2), num(1), num(2)), `[("f("(2>(.(("1"",")(_"2")))(.")")))]`)
	shown(t, row(list(3), num(1), num(2), num(3)), `[("["(2>(.(("1"",")(_(("2"",")(_"3")))))(."]")))]`)
	shown(t, row(sum, num(1), name("b")), `[("1"2>(_("+ ""b")))]`)
	shown(t, row(mul, num(1), name("b")), `[("1"2>(_("* ""b")))]`)
}

// kidsText is kids one behind the other, as the chapter nests them.
func kidsText(kids []string) string {
	if len(kids) == 1 {
		return kids[0]
	}
	return `((` + kids[0] + `",")(_` + kidsText(kids[1:]) + `))`
}

// betweenText is a call or a list of kids.
func betweenText(open string, kids []string, end string) string {
	if len(kids) == 0 {
		return `"` + open + end + `"`
	}
	return `[("` + open + `"(2>(.` + kidsText(kids) + `)(."` + end + `")))]`
}

// TestKids: calls and lists of so many kids, within one another.
func TestKids(t *testing.T) {
	forms := []struct {
		node      func(n int) api.Tree
		open, end string
	}{{list, "[", "]"}, {func(n int) api.Tree { return call("fgh", n) }, "fgh(", ")"}}
	for _, a := range forms {
		for n := range api.MaxKids + 1 {
			e := append(row(a.node(n)), slices.Repeat(row(num(7)), n)...)
			text := betweenText(a.open, slices.Repeat([]string{`"7"`}, n), a.end)
			shown(t, e, text)
			for _, b := range forms {
				// As all kids, so many as there is room for, and as one of MaxKids kids.
				for k := range min(30/len(e), api.MaxKids) + 1 {
					shown(t, append(row(b.node(k)), slices.Repeat(e, k)...), betweenText(b.open, slices.Repeat([]string{text}, k), b.end))
				}
				shown(t, slices.Concat(row(b.node(api.MaxKids), num(1), num(2)), e, row(num(4), num(5), num(6))), betweenText(b.open, []string{`"1"`, `"2"`, text, `"4"`, `"5"`, `"6"`}, b.end))
			}
		}
		for n := 1; n <= 30; n++ {
			text := `"` + a.open + a.end + `"`
			for range n {
				text = betweenText(a.open, []string{text}, a.end)
			}
			shown(t, append(slices.Repeat(row(a.node(1)), n), a.node(0)), text)
		}
	}
}

// TestNeeded: a Sum and a Mul as both kids of both, with brackets where Print has them.
func TestNeeded(t *testing.T) {
	a, b, c, d := name("a"), name("b"), name("c"), name("d")
	plus := func(first, second string) string { return `[(` + first + `2>(_("+ "` + second + `)))]` }
	times := func(first, second string) string { return `[(` + first + `2>(_("* "` + second + `)))]` }
	in := func(e string) string { return `("("(` + e + `")"))` }
	ta, tb, tc, td := `"a"`, `"b"`, `"c"`, `"d"`
	for _, q := range []struct {
		e    []api.Tree
		text string
	}{
		{row(sum, sum, a, b, c), plus(plus(ta, tb), tc)},
		{row(sum, mul, a, b, c), plus(times(ta, tb), tc)},
		{row(mul, sum, a, b, c), times(in(plus(ta, tb)), tc)},
		{row(mul, mul, a, b, c), times(times(ta, tb), tc)},
		{row(sum, a, sum, b, c), plus(ta, in(plus(tb, tc)))},
		{row(sum, a, mul, b, c), plus(ta, times(tb, tc))},
		{row(mul, a, sum, b, c), times(ta, in(plus(tb, tc)))},
		{row(mul, a, mul, b, c), times(ta, in(times(tb, tc)))},
		{row(sum, sum, a, b, sum, c, d), plus(plus(ta, tb), in(plus(tc, td)))},
		{row(sum, mul, a, b, mul, c, d), plus(times(ta, tb), times(tc, td))},
		{row(sum, sum, a, b, mul, c, d), plus(plus(ta, tb), times(tc, td))},
		{row(sum, mul, a, b, sum, c, d), plus(times(ta, tb), in(plus(tc, td)))},
		{row(mul, sum, a, b, sum, c, d), times(in(plus(ta, tb)), in(plus(tc, td)))},
		{row(mul, mul, a, b, mul, c, d), times(times(ta, tb), in(times(tc, td)))},
		{row(mul, sum, a, b, mul, c, d), times(in(plus(ta, tb)), in(times(tc, td)))},
		{row(mul, mul, a, b, sum, c, d), times(times(ta, tb), in(plus(tc, td)))},
		{row(mul, a, mul, b, sum, c, d), times(ta, in(times(tb, in(plus(tc, td)))))},
		// What stands between brackets of its own needs none.
		{row(mul, list(1), sum, a, b, call("f", 1), sum, c, d), times(betweenText("[", []string{plus(ta, tb)}, "]"), betweenText("f(", []string{plus(tc, td)}, ")"))},
		{row(sum, a, list(1), sum, b, c), plus(ta, betweenText("[", []string{plus(tb, tc)}, "]"))},
		{row(mul, a, call("f", 2), mul, a, b, mul, c, d), times(ta, betweenText("f(", []string{times(ta, tb), times(tc, td)}, ")"))},
		{row(list(2), sum, a, b, mul, c, d), betweenText("[", []string{plus(ta, tb), times(tc, td)}, "]")},
	} {
		shown(t, q.e, q.text)
		s := append(row(let("x")), q.e...)
		laidWays(t, s, allWays(t, s)...)
	}
}

// chain is a statement of n nodes: lists of one another, and a number at last.
func chain(first api.Tree, n int) []api.Tree {
	return append(append(row(first), slices.Repeat(row(list(1)), n-2)...), num(0))
}

// most gives how many nodes the doc of an expression of just so many nodes has at most, for each number of them up to n: brackets count where it stands.
func most(n int) []int {
	// Of Sums, of Muls, of others, and of all of these.
	sums, muls, others, all := nothing(n), nothing(n), nothing(n), nothing(n)
	others[1], all[1] = 1, 1
	for size := 2; size <= n; size++ {
		for first := 1; first < size-1; first++ {
			second := size - 1 - first
			sums[size] = max(sums[size], 7+all[first]+max(sums[second]+4, all[second]))
			muls[size] = max(muls[size], 7+max(sums[first]+4, all[first])+max(sums[second]+4, muls[second]+4, all[second]))
		}
		for kids := 1; kids <= min(api.MaxKids, size-1); kids++ {
			others[size] = max(others[size], 10+5*(kids-1)+share(all, size-1, kids))
		}
		all[size] = max(sums[size], muls[size], others[size])
	}
	return all
}

// nothing is a list in which no number of nodes has been found yet.
func nothing(n int) []int { return slices.Repeat([]int{-1 << 20}, n+1) }

// share gives the most that so many kids of size nodes together have.
func share(all []int, size, kids int) int {
	if kids == 1 {
		return all[size]
	}
	got := -1 << 20
	for first := 1; first <= size-(kids-1); first++ {
		got = max(got, all[first]+share(all, size-first, kids-1))
	}
	return got
}

// TestMost: the docs of the greatest statements have 389 nodes at most, so that ErrFull cannot come.
func TestMost(t *testing.T) {
	if got := 8 + slices.Max(most(api.MaxTree-1)); got != 389 || got > api.MaxNodes {
		t.Errorf("%d nodes", got)
	}
	for _, c := range []struct {
		s     []api.Tree
		nodes int
	}{{chain(let("abcdefgh"), 40), 389}, {chain(do, 40), 383}} {
		if d, err := Doc(c.s); len(d) != c.nodes || err != nil {
			t.Errorf("%v: %d nodes, %v, want %d", c.s, len(d), err, c.nodes)
		}
	}
}

// TestGreatest: as many nodes as a statement may have, in several forms.
func TestGreatest(t *testing.T) {
	r := rand.New(rand.NewSource(3))
	six := slices.Concat(row(list(6)), slices.Repeat(append(row(call("abcdefgh", 5)), slices.Repeat(row(num(999999)), 5)...), 6))
	forms := [][]api.Tree{
		chain(do, 40)[1:],
		slices.Concat(slices.Repeat(row(call("abcdefgh", 1)), 38), row(name("abcdefgh"))),
		slices.Concat(slices.Repeat(row(sum), 19), slices.Repeat(row(num(5)), 20)),
		slices.Concat(slices.Repeat(row(mul), 19), slices.Repeat(row(num(5)), 20)),
		slices.Concat(slices.Repeat(row(sum, num(5)), 19), row(num(5))),
		slices.Concat(slices.Repeat(row(mul, num(5)), 19), row(num(5))),
		slices.Concat(slices.Repeat(row(mul, num(5), sum, num(6)), 9), row(sum, num(7), num(8))),
		slices.Concat(slices.Repeat(row(mul, sum), 9), slices.Repeat(row(num(5)), 19)),
		slices.Concat(slices.Repeat(row(mul, num(1), list(1), sum, num(2), call("f", 1)), 6), row(sum, num(3), num(4))),
		six,
	}
	for _, e := range forms {
		for _, first := range []api.Tree{do, let("abcdefgh")} {
			s := append(row(first), e...)
			d, err := Doc(s)
			if err != nil {
				t.Fatalf("%v: %v", s, err)
			}
			holds(t, s, d)
			for range 20 {
				way1, _ := strolled(d, func() int { return min(1, r.Intn(4)) })
				laidWays(t, s, way1)
			}
			refuse(t, append(slices.Clone(s), slices.Repeat(row(num(1)), 41-len(s))...), api.ErrFull)
		}
	}
}

// TestFull: statements that are greater than Check allows, about MaxNodes; just so many nodes never come, as their number is odd always.
func TestFull(t *testing.T) {
	for _, c := range []struct {
		s     []api.Tree
		nodes int
		want  api.Errno
	}{
		{chain(let("a"), 41), 399, api.OK},
		{slices.Concat(row(do), slices.Repeat(row(list(1)), 39), row(sum, num(1), num(2))), 0, api.ErrFull},
		{slices.Concat(row(do), slices.Repeat(row(list(1)), 38), row(sum, num(1), sum, num(2), num(3))), 0, api.ErrFull},
		{slices.Concat(row(do), slices.Repeat(row(list(1)), 38), row(sum, num(1), mul, num(2), num(3))), 399, api.OK},
		{chain(let("a"), 42), 0, api.ErrFull},
		{chain(do, 1000), 0, api.ErrFull},
	} {
		if d, err := laid(c.s); len(d) != c.nodes || plain.Told(err) != c.want {
			t.Errorf("%.100s: %d nodes, %v, want %d, %v", fmt.Sprint(c.s), len(d), err, c.nodes, c.want)
		}
	}
}

func TestNote(t *testing.T) {
	words := strings.Split(strings.Repeat("ab #c ; let ", 15), " ")[:api.MaxWords]
	for n := range api.MaxWords + 1 {
		said(t, strings.Join(words[:n], " "), words[:n])
	}
	for _, word := range []string{"a", "#", "##", "!", "~", "a;b", "A_Z", "01", "abcdefghijklmnopqrst"} {
		said(t, word, []string{word})
		said(t, word+" "+word, []string{word, word})
		said(t, "x "+word+" y", []string{"x", word, "y"})
	}
	said(t, strings.Repeat("abcdefghijklmnopqrst ", 59)+"abcdefghijklmnopqrst", slices.Repeat([]string{"abcdefghijklmnopqrst"}, 60))
}

// said asks that a note has just these words, and is no doc.
func said(t *testing.T, text string, want []string) {
	t.Helper()
	s := row(note(text))
	if got, err := Note(s); !slices.Equal(got, want) || err != nil {
		t.Errorf("%q: %q, %v, want %q", text, got, err, want)
	}
	if d, err := Doc(s); len(d) != 0 || plain.Told(err) != api.ErrShape {
		t.Errorf("%q: %v, %v", text, d, err)
	}
	if !slices.Equal(s, row(note(text))) {
		t.Errorf("%v was %q", s, text)
	}
}

// TestWrong: what chapter 8 says of a statement comes ahead of whether it is a Note.
func TestWrong(t *testing.T) {
	for _, c := range []struct {
		s    []api.Tree
		want api.Errno
	}{
		{nil, api.ErrShape},
		{row(), api.ErrShape},
		{row(num(1)), api.ErrShape},
		{row(name("a")), api.ErrShape},
		{row(list(0)), api.ErrShape},
		{row(sum, num(1), num(2)), api.ErrShape},
		{row(do), api.ErrShape},
		{row(let("a")), api.ErrShape},
		{row(do, num(1), num(2)), api.ErrShape},
		{row(do, sum, num(1)), api.ErrShape},
		{row(do, list(6), num(1)), api.ErrShape},
		{row(do, do, num(1)), api.ErrShape},
		{row(do, note("a")), api.ErrShape},
		{row(do, list(1), note("a")), api.ErrShape},
		{row(note("a"), num(1)), api.ErrShape},
		{row(note("a"), note("a")), api.ErrShape},
		{row(let("a"), let("b"), num(1)), api.ErrShape},
		{row(do, api.Tree{Op: api.Num, Text: "a"}), api.ErrShape},
		{row(do, api.Tree{Op: api.Name, Text: "a", N: 1}), api.ErrShape},
		{row(do, api.Tree{Op: api.List, Text: "a"}), api.ErrShape},
		{row(do, api.Tree{Op: api.Sum, N: 2}, num(1), num(2)), api.ErrShape},
		{row(do, api.Tree{Op: api.Mul, Text: "*"}, num(1), num(2)), api.ErrShape},
		{row(api.Tree{Op: api.Do, N: 1}, num(1)), api.ErrShape},
		{row(api.Tree{Op: api.Do, Text: "a"}, num(1)), api.ErrShape},
		{row(api.Tree{Op: api.Let, Text: "a", N: 1}, num(1)), api.ErrShape},
		{row(api.Tree{Op: api.Note, Text: "a", N: 1}), api.ErrShape},
		{row(api.Tree{}), api.ErrRange},
		{row(api.Tree{Op: 10}), api.ErrRange},
		{row(api.Tree{Op: -1}), api.ErrRange},
		{row(do, api.Tree{Op: math.MinInt}), api.ErrRange},
		{row(note("a"), api.Tree{Op: math.MaxInt}), api.ErrRange},
		{row(do, num(-1)), api.ErrRange},
		{row(do, num(1000000)), api.ErrRange},
		{row(do, num(math.MaxInt)), api.ErrRange},
		{row(note("a"), num(-1)), api.ErrRange},
		{append(row(do, list(7)), slices.Repeat(row(num(1)), 7)...), api.ErrRange},
		{append(row(do, call("f", 7)), slices.Repeat(row(num(1)), 7)...), api.ErrRange},
		{row(do, call("f", math.MaxInt)), api.ErrRange},
		{row(do, list(math.MinInt)), api.ErrRange},
		{row(do, name("")), api.ErrSyntax},
		{row(do, name("let")), api.ErrSyntax},
		{row(do, name("A")), api.ErrSyntax},
		{row(do, name("abcdefghi")), api.ErrSyntax},
		{row(do, call("let", 0)), api.ErrSyntax},
		{row(do, call("", 0)), api.ErrSyntax},
		{row(let("let"), num(1)), api.ErrSyntax},
		{row(let(""), num(1)), api.ErrSyntax},
		{row(note("a"), name("")), api.ErrSyntax},
		{row(note(" ")), api.ErrSyntax},
		{row(note(" a")), api.ErrSyntax},
		{row(note("a ")), api.ErrSyntax},
		{row(note("a  b")), api.ErrSyntax},
		{row(note("a\nb")), api.ErrSyntax},
		{row(note("a\tb")), api.ErrSyntax},
		{row(note("é")), api.ErrSyntax},
		{row(note(strings.Repeat("a", 21))), api.ErrSyntax},
		{row(note(strings.Repeat("a ", 60) + "a")), api.ErrFull},
		{chain(do, 41), api.ErrFull},
		{chain(let("a"), 41), api.ErrFull},
		{chain(note("a"), 41), api.ErrFull},
		{make([]api.Tree, 41), api.ErrFull},
		{make([]api.Tree, 40), api.ErrRange},
	} {
		kept := slices.Clone(c.s)
		refuse(t, c.s, c.want)
		if !slices.Equal(c.s, kept) {
			t.Errorf("%v was %v", c.s, kept)
		}
	}
}

// exp is an expression with its kids.
type exp struct {
	node api.Tree
	kids []exp
}

// expOf takes the first expression of nodes, and gives those behind it.
func expOf(nodes []api.Tree) (exp, []api.Tree) {
	e := exp{node: nodes[0]}
	n := 0
	switch e.node.Op {
	case api.Call, api.List:
		n = e.node.N
	case api.Sum, api.Mul:
		n = 2
	}
	rest := nodes[1:]
	for range n {
		var kid exp
		kid, rest = expOf(rest)
		e.kids = append(e.kids, kid)
	}
	return e, rest
}

// needed are the kids that have brackets: of which Op, the first or the second one, and what it is.
var needed = [][3]int{{api.Mul, 0, api.Sum}, {api.Mul, 1, api.Sum}, {api.Sum, 1, api.Sum}, {api.Mul, 1, api.Mul}}

// text is the doc of an expression as chapter 2 writes it, by another road than Doc's.
func (e exp) text() string {
	var kids []string
	for i, kid := range e.kids {
		text := kid.text()
		if slices.Contains(needed, [3]int{e.node.Op, i, kid.node.Op}) {
			text = `("("(` + text + `")"))`
		}
		kids = append(kids, text)
	}
	switch e.node.Op {
	case api.Num:
		return `"` + fmt.Sprint(e.node.N) + `"`
	case api.Call:
		return betweenText(e.node.Text+"(", kids, ")")
	case api.List:
		return betweenText("[", kids, "]")
	case api.Sum:
		return `[(` + kids[0] + `2>(_("+ "` + kids[1] + `)))]`
	case api.Mul:
		return `[(` + kids[0] + `2>(_("* "` + kids[1] + `)))]`
	}
	return `"` + e.node.Text + `"`
}

// docText is the doc of a statement, likewise.
func docText(s []api.Tree) string {
	e, _ := expOf(s[1:])
	text := `(` + e.text() + `";")`
	if s[0].Op == api.Let {
		text = `[("let ` + s[0].Text + ` ="2>(_` + text + `))]`
	}
	return text
}

// TestOfAll: all rows of a few nodes; those that are no statements have Check's error.
func TestOfAll(t *testing.T) {
	alphabet := row(num(12), name("ab"), call("f", 0), call("f", 1), call("f", 2), list(0), list(1), list(2), list(3), sum, mul)
	rows := [][]api.Tree{nil}
	right := 0
	for range 5 {
		var more [][]api.Tree
		for _, e := range rows {
			for _, node := range alphabet {
				more = append(more, append(slices.Clip(e), node))
			}
		}
		for _, e := range more {
			for _, first := range []api.Tree{do, let("x")} {
				s := append(row(first), e...)
				if err := tree.Check(s); err != nil {
					refuse(t, s, plain.Told(err))
					continue
				}
				right++
				is(t, s, docText(s))
				laidWays(t, s, allWays(t, s)...)
			}
		}
		rows = more
	}
	if right < 3000 {
		t.Errorf("only %d statements", right)
	}
}

// grow gives the nodes of an expression of at most so many nodes, and at least one.
func grow(r *rand.Rand, room int) []api.Tree {
	op := api.Call + r.Intn(4)
	if room < 3 || r.Intn(room) == 0 {
		op = api.Num + r.Intn(2)
	}
	text := []string{"a", "bc", "lets", "abcdefgh"}[r.Intn(4)]
	node := api.Tree{Op: op}
	n := 0
	switch op {
	case api.Num:
		node.N = []int{0, 9, 10, 999999, r.Intn(1000000)}[r.Intn(5)]
	case api.Name:
		node.Text = text
	case api.Call:
		node.Text = text
		n = min(r.Intn(7), room-1)
		node.N = n
	case api.List:
		n = min(r.Intn(7), room-1)
		node.N = n
	case api.Sum, api.Mul:
		n = 2
	}
	nodes := row(node)
	left := room - 1
	for i := range n {
		others := n - 1 - i
		kid := grow(r, 1+r.Intn(left-others))
		left -= len(kid)
		nodes = append(nodes, kid...)
	}
	return nodes
}

// TestOfSome: statements that have grown.
func TestOfSome(t *testing.T) {
	r := rand.New(rand.NewSource(10))
	great := 0
	for range 5000 {
		first := do
		if r.Intn(2) == 0 {
			first = let([]string{"x", "abcdefgh"}[r.Intn(2)])
		}
		s := append(row(first), grow(r, 1+r.Intn(39))...)
		if len(s) > 25 {
			great++
		}
		is(t, s, docText(s))
		d, err := Doc(s)
		if err != nil {
			t.Fatal(err)
		}
		ways := allWays(t, s)
		for range 6 {
			way1, _ := strolled(d, func() int { return min(1, r.Intn(3)) })
			ways = append(ways, way1)
		}
		laidWays(t, s, ways...)
	}
	if great < 300 {
		t.Errorf("only %d great ones", great)
	}
	// As cheap as can be it is the same line too.
	for i := range 300 {
		s := append(row(let("x")), grow(r, 39)...)
		d, _ := Doc(s)
		_, way1, _, err := best.Best(d, i%(api.MaxWidth+1))
		if err != nil {
			t.Fatal(err)
		}
		laidWays(t, s, way1)
	}
	// Nodes of all sorts.
	for range 20000 {
		s := make([]api.Tree, 1+r.Intn(5))
		for i := range s {
			s[i] = api.Tree{Op: r.Intn(11), N: max(0, r.Intn(6)-3), Text: []string{"", "", "a", "A", "a b"}[r.Intn(5)]}
		}
		if err := tree.Check(s); err != nil {
			refuse(t, s, plain.Told(err))
		} else if s[0].Op == api.Note {
			said(t, s[0].Text, strings.Fields(s[0].Text))
		} else {
			is(t, s, docText(s))
		}
	}
}

// TestBehindTheLength: what lies behind a list's length is neither read nor written.
func TestBehindTheLength(t *testing.T) {
	whole := row(do, sum, num(1), name("a"), api.Tree{Op: 77}, note("a"))
	kept := slices.Clone(whole)
	is(t, whole[:4], `([("1"2>(_("+ ""a")))]";")`)
	refuse(t, whole[:3], api.ErrShape)
	refuse(t, whole[:0], api.ErrShape)
	refuse(t, whole[:5], api.ErrRange)
	if words, err := Note(row(note("b c"), num(1))[:1]); !slices.Equal(words, []string{"b", "c"}) || err != nil {
		t.Errorf("%v, %v", words, err)
	}
	if !slices.Equal(whole, kept) {
		t.Errorf("%v was %v", whole, kept)
	}
}

// apart asks that a text that came out is no piece of one that was handed in.
func apart(t *testing.T, out, in string) {
	t.Helper()
	if out == "" || in == "" {
		return
	}
	start := uintptr(unsafe.Pointer(unsafe.StringData(in)))
	if at := uintptr(unsafe.Pointer(unsafe.StringData(out))); start <= at && at < start+uintptr(len(in)) {
		t.Errorf("%q is a piece of %q", out, in)
	}
}

// TestFreshMemory: what comes out is the caller's, whatever becomes of another answer or of what was handed in.
func TestFreshMemory(t *testing.T) {
	for _, s := range [][]api.Tree{
		row(do, num(1)), row(do, name(strings.Clone("ab"))), row(do, list(0)), row(do, call("f", 0)),
		row(let("x"), mul, sum, name("a"), num(2), call("f", 2), list(1), name("b"), name("c")), chain(let("x"), 40),
	} {
		first, err := Doc(s)
		if err != nil {
			t.Fatal(err)
		}
		kept := slices.Clone(first)
		for _, node := range first {
			for _, in := range s {
				apart(t, node.Text, in.Text)
			}
		}
		second, _ := Doc(s)
		for i := range second[:cap(second)] {
			second[:cap(second)][i] = api.Node{Op: -1}
		}
		third, _ := Doc(s)
		if !slices.Equal(first, kept) || !slices.Equal(third, kept) {
			t.Errorf("%v, %v, was %v", first, third, kept)
		}
		clear(s)
		if !slices.Equal(first, kept) {
			t.Errorf("%v was %v", first, kept)
		}
	}
	for _, text := range []string{"a", "a b", "so it is", strings.Repeat("ab ", 59) + "c"} {
		s := row(note(text))
		want := strings.Split(text, " ")
		first, err := Note(s)
		if err != nil {
			t.Fatal(err)
		}
		for _, word := range first {
			apart(t, word, text)
		}
		second, _ := Note(s)
		clear(second[:cap(second)])
		third, _ := Note(s)
		clear(s)
		if !slices.Equal(first, want) || !slices.Equal(third, want) {
			t.Errorf("%q, %q, want %q", first, third, want)
		}
	}
}

// TestNothingIsKept: what is asked next hangs on nothing that was asked ahead of it.
func TestNothingIsKept(t *testing.T) {
	for _, ahead := range [][]api.Tree{nil, row(do, num(2)), row(note("b")), row(note("")), row(do), chain(let("x"), 40), chain(do, 41)} {
		Doc(ahead)
		Note(ahead)
		is(t, row(do, num(1)), `("1"";")`)
		Doc(ahead)
		Note(ahead)
		said(t, "a b", []string{"a", "b"})
	}
}

// TestSoon: great things take little time.
func TestSoon(t *testing.T) {
	start := time.Now()
	refuse(t, make([]api.Tree, 1<<20), api.ErrFull)
	refuse(t, row(note(strings.Repeat("a ", 1<<24))), api.ErrFull)
	refuse(t, row(note(strings.Repeat("a", 1<<24))), api.ErrSyntax)
	refuse(t, row(do, name(strings.Repeat("a", 1<<24))), api.ErrSyntax)
	for range 1000 {
		Doc(chain(let("x"), 40))
	}
	if took := time.Since(start); took > 10*time.Second {
		t.Errorf("%v", took)
	}
}
