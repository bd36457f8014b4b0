package way

import (
	"math"
	"math/rand"
	"slices"
	"strings"
	"testing"

	"pargetry/api"
	"pargetry/doc"
	"pargetry/flat"
	"pargetry/plain"
)

var (
	blank = []api.Node{{Op: api.Blank}}
	soft  = []api.Node{{Op: api.Soft}}
	newl  = []api.Node{{Op: api.Line}}
	zero  = []api.Node{{Op: api.Zero}}
	a     = word("a")
	b     = word("bc")
	// pair is flat in one line or stands in two.
	pair = both(a, both(blank, b))
	// broken has a Line, so that it is never flat.
	broken = both(a, both(newl, b))
)

func word(text string) []api.Node { return []api.Node{{Op: api.Word, Text: text}} }

func of(node api.Node, parts ...[]api.Node) []api.Node {
	return append([]api.Node{node}, slices.Concat(parts...)...)
}

func both(x, y []api.Node) []api.Node { return of(api.Node{Op: api.Both}, x, y) }

func either(x, y []api.Node) []api.Node { return of(api.Node{Op: api.Either}, x, y) }

func deep(n int, x []api.Node) []api.Node { return of(api.Node{Op: api.Deep, N: n}, x) }

func group(x []api.Node) []api.Node { return of(api.Node{Op: api.Group}, x) }

// row is docs one behind the other.
func row(docs ...[]api.Node) []api.Node {
	d := docs[len(docs)-1]
	for i := len(docs) - 2; i >= 0; i-- {
		d = both(docs[i], d)
	}
	return d
}

// oneOf is a doc of n ways: n words of which one is taken.
func oneOf(n int) []api.Node {
	d := a
	for range n - 1 {
		d = either(b, d)
	}
	return d
}

// within is a doc n times within a node.
func within(n int, node api.Node, d []api.Node) []api.Node {
	return slices.Concat(slices.Repeat([]api.Node{node}, n), d)
}

func TestNumbers(t *testing.T) {
	if api.MaxWays != 300 {
		t.Errorf("MaxWays %d", api.MaxWays)
	}
}

// TestShow: every kind of node, and nested ones.
func TestShow(t *testing.T) {
	for _, c := range []struct {
		d    []api.Node
		way  []int
		want string
	}{
		{a, nil, "a"},
		{a, []int{}, "a"},
		{word(" ~\"|"), nil, " ~\"|"},
		{blank, nil, "\n"},
		{soft, nil, "\n"},
		{newl, nil, "\n"},
		{zero, nil, ""},
		{both(a, b), nil, "abc"},
		{pair, nil, "a\nbc"},
		{row(blank, soft, newl, zero), nil, "\n\n\n"},
		{deep(3, a), nil, "a"},
		{deep(0, pair), nil, "a\nbc"},
		{deep(3, pair), nil, "a\n   bc"},
		{deep(3, row(soft, newl, zero)), nil, "\n   \n   "},
		// Deep within Deep: deeper by both, and no deeper behind it.
		{deep(2, row(a, blank, deep(3, row(b, soft, a, newl)), b, blank)), nil, "a\n  bc\n     a\n     bc\n  "},
		{both(deep(8, deep(8, deep(1, newl))), newl), nil, "\n" + strings.Repeat(" ", 17) + "\n"},
		{group(pair), []int{0}, "a bc"},
		{group(pair), []int{1}, "a\nbc"},
		{group(both(a, soft)), []int{0}, "a"},
		{group(both(a, soft)), []int{1}, "a\n"},
		{group(zero), []int{0}, ""},
		{group(zero), []int{1}, ""},
		{group(broken), []int{1}, "a\nbc"},
		{deep(4, group(pair)), []int{0}, "a bc"},
		{deep(4, group(pair)), []int{1}, "a\n    bc"},
		{group(deep(4, pair)), []int{0}, "a bc"},
		{group(deep(4, pair)), []int{1}, "a\n    bc"},
		{either(a, b), []int{0}, "a"},
		{either(a, b), []int{1}, "bc"},
		{either(pair, newl), []int{0}, "a\nbc"},
		{deep(2, either(pair, newl)), []int{1}, "\n  "},
		{either(deep(2, newl), deep(5, newl)), []int{0}, "\n  "},
		{either(deep(2, newl), deep(5, newl)), []int{1}, "\n     "},
		{both(either(pair, deep(1, newl)), b), []int{0}, "a\nbcbc"},
		{both(either(pair, deep(1, newl)), b), []int{1}, "\n bc"},
	} {
		showOne(t, c.d, c.way, c.want)
	}
}

// TestShowChoices: the choices are come to from the left, and none inside of what is flat or not taken.
func TestShowChoices(t *testing.T) {
	inGroup := group(both(a, both(blank, group(both(b, soft)))))
	inEither := either(group(pair), either(a, group(both(b, blank))))
	eitherInGroup := group(both(either(pair, newl), blank))
	rowOfThree := row(group(pair), either(blank, a), group(soft))
	for _, c := range []struct {
		d    []api.Node
		way  []int
		want string
	}{
		{inGroup, []int{0}, "a bc"},
		{inGroup, []int{1, 0}, "a\nbc"},
		{inGroup, []int{1, 1}, "a\nbc\n"},
		{inEither, []int{0, 0}, "a bc"},
		{inEither, []int{0, 1}, "a\nbc"},
		{inEither, []int{1, 0}, "a"},
		{inEither, []int{1, 1, 0}, "bc "},
		{inEither, []int{1, 1, 1}, "bc\n"},
		// Flat an Either is its first part, so a Line in the second one is none.
		{eitherInGroup, []int{0}, "a bc "},
		{eitherInGroup, []int{1, 0}, "a\nbc\n"},
		{eitherInGroup, []int{1, 1}, "\n\n"},
		{rowOfThree, []int{0, 0, 0}, "a bc\n"},
		{rowOfThree, []int{0, 0, 1}, "a bc\n\n"},
		{rowOfThree, []int{0, 1, 0}, "a bca"},
		{rowOfThree, []int{1, 0, 0}, "a\nbc\n"},
		{rowOfThree, []int{1, 1, 1}, "a\nbca\n"},
		{group(group(group(pair))), []int{0}, "a bc"},
		{group(group(group(pair))), []int{1, 0}, "a bc"},
		{group(group(group(pair))), []int{1, 1, 0}, "a bc"},
		{group(group(group(pair))), []int{1, 1, 1}, "a\nbc"},
		{deep(2, both(newl, group(deep(3, both(group(pair), blank))))), []int{1, 0}, "\n  a bc\n     "},
		{deep(2, both(newl, group(deep(3, both(group(pair), blank))))), []int{0}, "\n  a bc "},
	} {
		showOne(t, c.d, c.way, c.want)
	}
}

// showOne holds Show against what is wanted, and what is handed in against what it was.
func showOne(t *testing.T, d []api.Node, way []int, want string) {
	t.Helper()
	keptDoc, keptWay := slices.Clone(d), slices.Clone(way)
	got, err := Show(d, way)
	if got != want || err != nil {
		t.Errorf("Show of %v, %v: %q, %v, want %q", d, way, got, err, want)
	}
	if !slices.Equal(d, keptDoc) || !slices.Equal(way, keptWay) {
		t.Errorf("%v, %v was %v, %v", d, way, keptDoc, keptWay)
	}
}

// refuse asks that Show says an error, and nothing beside it.
func refuse(t *testing.T, d []api.Node, way []int, want api.Errno) {
	t.Helper()
	if got, err := Show(d, way); got != "" || plain.Told(err) != want {
		t.Errorf("Show of %d nodes %.9v, %.9v: %q, %v, want %v", len(d), d, way, got, err, want)
	}
}

func TestShowNumberOfChoices(t *testing.T) {
	refuse(t, a, []int{0}, api.ErrShape)
	refuse(t, newl, []int{1}, api.ErrShape)
	refuse(t, pair, []int{0, 0}, api.ErrShape)
	refuse(t, group(pair), nil, api.ErrShape)
	refuse(t, group(pair), []int{}, api.ErrShape)
	refuse(t, group(pair), []int{0, 0}, api.ErrShape)
	refuse(t, group(pair), []int{1, 1}, api.ErrShape)
	refuse(t, either(a, b), nil, api.ErrShape)
	refuse(t, either(a, b), []int{0, 1}, api.ErrShape)
	refuse(t, either(a, group(b)), []int{0, 0}, api.ErrShape)
	refuse(t, either(a, group(b)), []int{1}, api.ErrShape)
	refuse(t, group(group(a)), []int{0, 0}, api.ErrShape)
	refuse(t, group(group(a)), []int{1}, api.ErrShape)
	refuse(t, row(group(a), group(b)), []int{0}, api.ErrShape)
	refuse(t, row(group(a), group(b)), []int{0, 0, 0}, api.ErrShape)
	refuse(t, a, make([]int, 100000), api.ErrShape)
}

// TestShowNoChoice: what is neither 0 nor 1 is told, wherever it stands, ahead of all but what Check says.
func TestShowNoChoice(t *testing.T) {
	for _, wrong := range []int{-1, 2, 3, 10, 256, 1 << 32, math.MinInt, math.MaxInt} {
		refuse(t, group(pair), []int{wrong}, api.ErrRange)
		refuse(t, either(a, b), []int{wrong}, api.ErrRange)
		refuse(t, a, []int{wrong}, api.ErrRange)
		refuse(t, group(pair), []int{0, wrong}, api.ErrRange)
		refuse(t, group(pair), []int{wrong, 0}, api.ErrRange)
		refuse(t, row(group(a), group(a), group(a)), []int{wrong}, api.ErrRange)
		refuse(t, row(group(a), group(a), group(a)), []int{0, 1, wrong}, api.ErrRange)
		refuse(t, group(newl), []int{wrong}, api.ErrRange)
		refuse(t, group(newl), []int{0, wrong}, api.ErrRange)
		refuse(t, nil, []int{wrong}, api.ErrShape)
		refuse(t, word(""), []int{wrong}, api.ErrSyntax)
		refuse(t, make([]api.Node, 401), []int{wrong}, api.ErrFull)
	}
}

func TestShowFlatWithLine(t *testing.T) {
	for _, d := range [][]api.Node{
		newl,
		broken,
		both(newl, a),
		deep(8, newl),
		group(newl),
		group(group(broken)),
		either(newl, a),
		either(group(deep(1, broken)), b),
		both(either(a, newl), newl),
	} {
		refuse(t, group(d), []int{0}, api.ErrNone)
		refuse(t, deep(2, both(a, group(d))), []int{0}, api.ErrNone)
		refuse(t, either(a, group(d)), []int{1, 0}, api.ErrNone)
	}
}

// TestShowWhatIsFirst: of a number of choices and of a Line what is come to first is told.
func TestShowWhatIsFirst(t *testing.T) {
	refuse(t, row(group(newl), group(a)), []int{0}, api.ErrNone)
	refuse(t, row(group(newl), either(a, b), group(a)), []int{0}, api.ErrNone)
	refuse(t, row(group(a), group(newl), group(a)), []int{1, 0}, api.ErrNone)
	refuse(t, group(both(group(newl), group(a))), []int{1, 0}, api.ErrNone)
	// That there are more is known at the end alone.
	refuse(t, group(newl), []int{0, 0}, api.ErrNone)
	refuse(t, group(newl), []int{0, 1, 1, 1}, api.ErrNone)
	refuse(t, row(group(a), group(newl)), []int{0, 0, 1}, api.ErrNone)
	refuse(t, row(group(a), group(newl)), nil, api.ErrShape)
	refuse(t, row(group(a), group(newl)), []int{0}, api.ErrShape)
	refuse(t, row(group(newl), group(newl)), []int{1}, api.ErrShape)
	refuse(t, row(either(a, b), group(newl)), []int{1}, api.ErrShape)
	refuse(t, group(newl), nil, api.ErrShape)
	refuse(t, group(newl), []int{1, 0}, api.ErrShape)
	refuse(t, group(group(newl)), []int{1}, api.ErrShape)
	// The Line is never come to.
	refuse(t, either(group(newl), a), []int{1, 0}, api.ErrShape)
	refuse(t, either(a, group(newl)), []int{0, 0}, api.ErrShape)
	refuse(t, group(both(either(a, newl), zero)), []int{0, 0}, api.ErrShape)
}

// TestWrongDocs: what Check says is said by both calls, whatever the choices are.
func TestWrongDocs(t *testing.T) {
	deepest := api.Node{Op: api.Group}
	for _, c := range []struct {
		d    []api.Node
		want api.Errno
	}{
		{nil, api.ErrShape},
		{[]api.Node{}, api.ErrShape},
		{within(400, deepest, a), api.ErrFull},
		{within(400, deepest, newl), api.ErrFull},
		{make([]api.Node, 401), api.ErrFull},
		{make([]api.Node, 400), api.ErrRange},
		{[]api.Node{{Op: 0}}, api.ErrRange},
		{[]api.Node{{Op: 10}}, api.ErrRange},
		{[]api.Node{{Op: -1}}, api.ErrRange},
		{[]api.Node{{Op: math.MinInt}}, api.ErrRange},
		{[]api.Node{{Op: math.MaxInt}}, api.ErrRange},
		{[]api.Node{{Op: api.Line, Text: "a"}}, api.ErrShape},
		{[]api.Node{{Op: api.Word, Text: "a", N: 1}}, api.ErrShape},
		{of(api.Node{Op: api.Group, N: 1}, a), api.ErrShape},
		{word(""), api.ErrSyntax},
		{word("\n"), api.ErrSyntax},
		{word("\x7f"), api.ErrSyntax},
		{word(strings.Repeat("x", 21)), api.ErrSyntax},
		{deep(9, a), api.ErrRange},
		{deep(-1, a), api.ErrRange},
		{both(a, nil), api.ErrShape},
		{either(a, nil), api.ErrShape},
		{group(nil), api.ErrShape},
		{deep(1, nil), api.ErrShape},
		{slices.Concat(a, a), api.ErrShape},
		{slices.Concat(group(a), newl), api.ErrShape},
		{either(a, word("")), api.ErrSyntax},
		{either(group(newl), deep(9, a)), api.ErrRange},
		{both(oneOf(190), word("")), api.ErrSyntax},
		{slices.Concat(group(newl), group(newl)), api.ErrShape},
	} {
		for _, way := range [][]int{nil, {0}, {1}, {0, 0}, {2}, {-1, 0}} {
			refuse(t, c.d, way, c.want)
		}
		if ways, err := All(c.d); ways != nil || plain.Told(err) != c.want {
			t.Errorf("All of %d nodes %.9v: %v, %v, want %v", len(c.d), c.d, ways, err, c.want)
		}
	}
}

// equal tells whether both are the same ways; nil and empty are the same.
func equal(x, y [][]int) bool { return slices.EqualFunc(x, y, slices.Equal[[]int]) }

func TestAll(t *testing.T) {
	for _, c := range []struct {
		d    []api.Node
		want [][]int
	}{
		// One way, and no choice on it.
		{a, [][]int{{}}},
		{newl, [][]int{{}}},
		{zero, [][]int{{}}},
		{deep(8, broken), [][]int{{}}},
		// One way, since what has a Line is not flat.
		{group(newl), [][]int{{1}}},
		{group(broken), [][]int{{1}}},
		{group(either(newl, a)), [][]int{{1, 0}, {1, 1}}},
		{row(group(newl), group(broken)), [][]int{{1, 1}}},
		{group(group(newl)), [][]int{{1, 1}}},
		{group(pair), [][]int{{0}, {1}}},
		{group(zero), [][]int{{0}, {1}}},
		{either(a, b), [][]int{{0}, {1}}},
		// Ways are other ways though the text is the same.
		{either(a, a), [][]int{{0}, {1}}},
		{either(newl, newl), [][]int{{0}, {1}}},
		{row(group(a), either(a, b)), [][]int{{0, 0}, {0, 1}, {1, 0}, {1, 1}}},
		{row(group(newl), either(a, b)), [][]int{{1, 0}, {1, 1}}},
		{row(either(a, b), group(newl)), [][]int{{0, 1}, {1, 1}}},
		// Groups within groups.
		{group(group(pair)), [][]int{{0}, {1, 0}, {1, 1}}},
		{group(both(group(pair), newl)), [][]int{{1, 0}, {1, 1}}},
		{group(both(newl, group(newl))), [][]int{{1, 1}}},
		{group(both(group(a), group(b))), [][]int{{0}, {1, 0, 0}, {1, 0, 1}, {1, 1, 0}, {1, 1, 1}}},
		{both(group(group(a)), group(b)), [][]int{{0, 0}, {0, 1}, {1, 0, 0}, {1, 0, 1}, {1, 1, 0}, {1, 1, 1}}},
		// A group within an Either.
		{either(group(a), b), [][]int{{0, 0}, {0, 1}, {1}}},
		{either(a, group(b)), [][]int{{0}, {1, 0}, {1, 1}}},
		{either(group(newl), group(b)), [][]int{{0, 1}, {1, 0}, {1, 1}}},
		// An Either within a group.
		{group(either(a, b)), [][]int{{0}, {1, 0}, {1, 1}}},
		{group(either(a, newl)), [][]int{{0}, {1, 0}, {1, 1}}},
		{group(deep(2, either(a, group(newl)))), [][]int{{0}, {1, 0}, {1, 1, 1}}},
		{oneOf(4), [][]int{{0}, {1, 0}, {1, 1, 0}, {1, 1, 1}}},
		{either(either(a, b), either(b, a)), [][]int{{0, 0}, {0, 1}, {1, 0}, {1, 1}}},
	} {
		kept := slices.Clone(c.d)
		got, err := All(c.d)
		if !equal(got, c.want) || err != nil {
			t.Errorf("All of %v: %v, %v, want %v", c.d, got, err, c.want)
		}
		if !slices.Equal(c.d, kept) {
			t.Errorf("%v was %v", c.d, kept)
		}
	}
}

// TestAllFull: docs of just so many ways as may be, of one less and of one more, and of far more.
func TestAllFull(t *testing.T) {
	groups := slices.Repeat([][]api.Node{group(a)}, 130)
	for _, c := range []struct {
		d    []api.Node
		ways int
	}{
		{both(oneOf(13), oneOf(23)), 299},
		{both(oneOf(15), oneOf(20)), 300},
		{both(oneOf(20), deep(8, oneOf(15))), 300},
		{either(oneOf(140), oneOf(60)), 200},
		{group(both(oneOf(13), oneOf(23))), 300},
		{either(a, both(oneOf(13), oneOf(23))), 300},
		{either(both(oneOf(13), oneOf(23)), newl), 300},
		{within(200, api.Node{Op: api.Group}, both(newl, both(oneOf(15), oneOf(20)))), 300},
		{within(199, api.Node{Op: api.Group}, a), 200},
		{within(299, api.Node{Op: api.Group}, a), 300},
		{both(oneOf(7), oneOf(43)), 301},
		{group(both(oneOf(15), oneOf(20))), 301},
		{either(both(oneOf(15), oneOf(20)), a), 301},
		{either(a, both(oneOf(15), oneOf(20))), 301},
		{within(300, api.Node{Op: api.Group}, a), 301},
		{both(oneOf(2), both(oneOf(8), oneOf(19))), 304},
		{row(groups...), 1 << 60},
		{group(row(groups...)), 1 << 60},
		{both(oneOf(100), oneOf(99)), 9900},
	} {
		got, err := All(c.d)
		if c.ways > 300 {
			if got != nil || plain.Told(err) != api.ErrFull {
				t.Errorf("%d ways of %.9v: %d, %v", c.ways, c.d, len(got), err)
			}
			continue
		}
		if len(got) != c.ways || err != nil || !slices.IsSortedFunc(got, slices.Compare[[]int]) {
			t.Errorf("%d ways of %.9v: %d, %v", c.ways, c.d, len(got), err)
		}
		if !equal(got, waysOf(laid(c.d, 0))) {
			t.Errorf("ways of %.9v: %v", c.d, got)
		}
	}
}

// TestDeepest: the greatest docs are laid as the small ones are.
func TestDeepest(t *testing.T) {
	showOne(t, within(399, api.Node{Op: api.Deep, N: 8}, newl), nil, "\n"+strings.Repeat(" ", 399*8))
	showOne(t, within(399, api.Node{Op: api.Group}, blank), slices.Repeat([]int{1}, 399), "\n")
	showOne(t, within(399, api.Node{Op: api.Group}, blank), append(slices.Repeat([]int{1}, 398), 0), " ")
	refuse(t, within(399, api.Node{Op: api.Group}, newl), append(slices.Repeat([]int{1}, 398), 0), api.ErrNone)
	refuse(t, within(399, api.Node{Op: api.Group}, blank), slices.Repeat([]int{1}, 398), api.ErrShape)
	showOne(t, row(slices.Repeat([][]api.Node{newl}, 200)...), nil, strings.Repeat("\n", 200))
	showOne(t, oneOf(200), slices.Repeat([]int{1}, 199), "a")
	lines := row(slices.Repeat([][]api.Node{newl}, 100)...)
	want := strings.Repeat("\n"+strings.Repeat(" ", 201*8), 100)
	showOne(t, within(201, api.Node{Op: api.Deep, N: 8}, lines), nil, want)
	ways, err := All(within(399, api.Node{Op: api.Group}, newl))
	if !equal(ways, [][]int{slices.Repeat([]int{1}, 399)}) || err != nil {
		t.Errorf("399 groups about a Line: %d ways, %v", len(ways), err)
	}
}

// shown is a way and its text.
type shown struct {
	way  []int
	text string
}

// laid has all ways of a doc put together from those of its parts.
func laid(d []api.Node, deep int) []shown {
	parts, rest := [][]api.Node{}, d[1:]
	for len(rest) > 0 {
		end, _ := doc.End(d, len(d)-len(rest))
		n := end - (len(d) - len(rest))
		parts, rest = append(parts, rest[:n]), rest[n:]
	}
	switch d[0].Op {
	case api.Word:
		return []shown{{nil, d[0].Text}}
	case api.Blank, api.Soft, api.Line:
		return []shown{{nil, "\n" + strings.Repeat(" ", deep)}}
	case api.Both:
		return joined(laid(parts[0], deep), laid(parts[1], deep))
	case api.Deep:
		return laid(parts[0], deep+d[0].N)
	case api.Group:
		var out []shown
		if text, is, _ := flat.Flat(parts[0]); is {
			out = []shown{{[]int{0}, text}}
		}
		return append(out, behind(1, laid(parts[0], deep))...)
	case api.Either:
		return append(behind(0, laid(parts[0], deep)), behind(1, laid(parts[1], deep))...)
	}
	return []shown{{nil, ""}}
}

// joined has each of some ways with each of others behind it.
func joined(first, second []shown) []shown {
	var out []shown
	for _, x := range first {
		for _, y := range second {
			out = append(out, shown{slices.Concat(x.way, y.way), x.text + y.text})
		}
	}
	return out
}

// behind has a choice ahead of each of some ways.
func behind(choice int, all []shown) []shown {
	var out []shown
	for _, x := range all {
		out = append(out, shown{slices.Concat([]int{choice}, x.way), x.text})
	}
	return out
}

func waysOf(all []shown) [][]int {
	var out [][]int
	for _, x := range all {
		out = append(out, x.way)
	}
	return out
}

// grow makes a doc of at most so many nodes below each other.
func grow(r *rand.Rand, deepest int) []api.Node {
	o := 1 + r.Intn(9)
	if deepest == 0 {
		o = 1 + r.Intn(5)
	} else if r.Intn(2) == 0 {
		// Else most docs would be of a node or two.
		o = 6 + r.Intn(4)
	}
	switch o {
	case api.Word:
		return word(strings.Repeat(string(rune(32+r.Intn(95))), 1+r.Intn(20)))
	case api.Both:
		return both(grow(r, deepest-1), grow(r, deepest-1))
	case api.Deep:
		return deep(r.Intn(9), grow(r, deepest-1))
	case api.Group:
		return group(grow(r, deepest-1))
	case api.Either:
		return either(grow(r, deepest-1), grow(r, deepest-1))
	}
	return []api.Node{{Op: o}}
}

// manyWays tells whether a doc, or a part of it, has more than 5000 ways: too many to be put together.
func manyWays(d []api.Node) bool {
	n := make([]int, len(d))
	for i := len(d) - 1; i >= 0; i-- {
		n[i] = 1
		switch d[i].Op {
		case api.Both, api.Either:
			second, _ := doc.End(d, i+1)
			n[i] = n[i+1] * n[second]
			if d[i].Op == api.Either {
				n[i] = n[i+1] + n[second]
			}
		case api.Deep:
			n[i] = n[i+1]
		case api.Group:
			n[i] = n[i+1] + 1
		}
		if n[i] > 5000 {
			return true
		}
	}
	return false
}

// TestGrown: docs of all forms, with all their ways.
func TestGrown(t *testing.T) {
	r := rand.New(rand.NewSource(4))
	full, most := 0, 0
	for range 4000 {
		d := grow(r, r.Intn(9))
		if len(d) > api.MaxNodes || manyWays(d) {
			continue
		}
		want := laid(d, 0)
		got, err := All(d)
		if len(want) > api.MaxWays {
			full++
			if got != nil || plain.Told(err) != api.ErrFull {
				t.Fatalf("All of %v, of %d ways: %d, %v", d, len(want), len(got), err)
			}
		} else if !equal(got, waysOf(want)) || err != nil {
			t.Fatalf("All of %v: %v, %v, want %v", d, got, err, waysOf(want))
		}
		most = max(most, len(got))
		for _, x := range want {
			showOne(t, d, x.way, x.text)
		}
	}
	if full == 0 || most < 200 {
		t.Errorf("%d docs of too many ways were grown, and at most %d ways of others", full, most)
	}
}

// toldOf is what Show should say of some choices, by all ways that there are: what is neither the beginning of a way, nor has one as its beginning, has come to a Line in what is flat.
func toldOf(all []shown, choices []int) (string, api.Errno) {
	told := api.ErrNone
	for _, x := range all {
		if slices.Equal(x.way, choices) {
			return x.text, api.OK
		}
		n := min(len(x.way), len(choices))
		if slices.Equal(x.way[:n], choices[:n]) {
			told = api.ErrShape
		}
	}
	return "", told
}

// TestAllChoices: docs of all forms, with all lists of up to 6 choices.
func TestAllChoices(t *testing.T) {
	r := rand.New(rand.NewSource(5))
	lists := [][]int{nil}
	for i := 0; len(lists[i]) < 6; i++ {
		lists = append(lists, slices.Concat(lists[i], []int{0}), slices.Concat(lists[i], []int{1}))
	}
	count := map[api.Errno]int{}
	for range 600 {
		d := grow(r, r.Intn(6))
		if manyWays(d) {
			continue
		}
		all := laid(d, 0)
		for _, choices := range lists {
			want, told := toldOf(all, choices)
			got, err := Show(d, choices)
			if got != want || plain.Told(err) != told {
				t.Fatalf("Show of %v, %v: %q, %v, want %q, %v", d, choices, got, err, want, told)
			}
			count[told]++
		}
	}
	for _, e := range []api.Errno{api.OK, api.ErrShape, api.ErrNone} {
		if count[e] == 0 {
			t.Errorf("%v was never told", e)
		}
	}
}

// TestFreshMemory: no two ways share any, nor those of two calls.
func TestFreshMemory(t *testing.T) {
	d := row(group(a), either(a, b), group(a))
	want := waysOf(laid(d, 0))
	first, _ := All(d)
	second, _ := All(d)
	for i, way := range first {
		for k := range way {
			way[k] = 7
		}
		_ = append(way[:len(way):cap(way)], 7, 7, 7)
		if !equal(first[i+1:], want[i+1:]) || !equal(second, want) {
			t.Fatalf("way %d is written into: %v, %v", i, first, second)
		}
	}
	if again, _ := All(d); !equal(again, want) {
		t.Errorf("All is not what it was: %v", again)
	}
}

// TestBehindTheLength: what lies behind a list's length is neither read nor written.
func TestBehindTheLength(t *testing.T) {
	all := slices.Concat(group(pair), newl, []api.Node{{Op: 77}})
	choices := []int{1, 0, 9}
	keptDoc, keptWay := slices.Clone(all), slices.Clone(choices)
	n := len(group(pair))
	showOne(t, all[:n], choices[:1], "a\nbc")
	refuse(t, all[:n], choices[:0], api.ErrShape)
	refuse(t, all[:n], choices[:2], api.ErrShape)
	refuse(t, all[:n-1], choices[:1], api.ErrShape)
	if ways, err := All(all[:n]); !equal(ways, [][]int{{0}, {1}}) || err != nil {
		t.Errorf("All: %v, %v", ways, err)
	}
	if ways, err := All(all[:n-1]); ways != nil || plain.Told(err) != api.ErrShape {
		t.Errorf("a part that lies behind the length is taken: %v, %v", ways, err)
	}
	if !slices.Equal(all, keptDoc) || !slices.Equal(choices, keptWay) {
		t.Errorf("%v, %v was %v, %v", all, choices, keptDoc, keptWay)
	}
}
