package flat

import (
	"math"
	"math/rand"
	"slices"
	"strings"
	"testing"

	"pargetry/api"
	"pargetry/doc"
	"pargetry/plain"
)

var (
	blank  = []api.Node{{Op: api.Blank}}
	soft   = []api.Node{{Op: api.Soft}}
	newl   = []api.Node{{Op: api.Line}}
	zero   = []api.Node{{Op: api.Zero}}
	a      = word("a")
	b      = word("bc")
	broken = []api.Node{{Op: api.Both}, {Op: api.Word, Text: "a"}, {Op: api.Line}}
)

func word(text string) []api.Node { return []api.Node{{Op: api.Word, Text: text}} }

func of(node api.Node, parts ...[]api.Node) []api.Node {
	return append([]api.Node{node}, slices.Concat(parts...)...)
}

func both(x, y []api.Node) []api.Node { return of(api.Node{Op: api.Both}, x, y) }

func either(x, y []api.Node) []api.Node { return of(api.Node{Op: api.Either}, x, y) }

func deep(n int, x []api.Node) []api.Node { return of(api.Node{Op: api.Deep, N: n}, x) }

func group(x []api.Node) []api.Node { return of(api.Node{Op: api.Group}, x) }

// within is a doc of n nodes, all but its last ones Group and Deep in turn.
func within(n int, last []api.Node) []api.Node {
	d := last
	for len(d) < n {
		if len(d)%2 == 0 {
			d = group(d)
		} else {
			d = deep(8, d)
		}
	}
	return d
}

// ask holds Flat and Long against what is wanted, and the doc against what it was.
func ask(t *testing.T, d []api.Node, want string, wantIs bool) {
	t.Helper()
	kept := slices.Clone(d)
	text, is, err := Flat(d)
	if text != want || is != wantIs || err != nil {
		t.Errorf("Flat of %v: %q, %v, %v, want %q, %v", d, text, is, err, want, wantIs)
	}
	n, is, err := Long(d)
	if n != len(want) || is != wantIs || err != nil {
		t.Errorf("Long of %v: %d, %v, %v, want %d, %v", d, n, is, err, len(want), wantIs)
	}
	if !slices.Equal(d, kept) {
		t.Errorf("%v was %v", d, kept)
	}
}

func TestFlat(t *testing.T) {
	for _, c := range []struct {
		d    []api.Node
		want string
	}{
		{a, "a"},
		{word(" "), " "},
		{word("~ !\"#$%&'()*+,-./012"), "~ !\"#$%&'()*+,-./012"},
		{blank, " "},
		{soft, ""},
		{zero, ""},
		{both(a, b), "abc"},
		{both(b, a), "bca"},
		{both(blank, blank), "  "},
		{both(soft, zero), ""},
		{both(a, both(blank, b)), "a bc"},
		{both(both(a, blank), b), "a bc"},
		{deep(0, a), "a"},
		{deep(8, a), "a"},
		{deep(3, blank), " "},
		{deep(3, soft), ""},
		{group(a), "a"},
		{group(group(both(a, blank))), "a "},
		{both(group(a), b), "abc"},
		{both(deep(2, a), b), "abc"},
		{either(a, b), "a"},
		{either(b, a), "bc"},
		{either(zero, a), ""},
		{both(either(a, b), blank), "a "},
		{both(either(both(a, blank), group(b)), b), "a bc"},
		{either(either(a, b), blank), "a"},
		{either(a, either(b, blank)), "a"},
		{both(either(either(a, blank), either(b, b)), b), "abc"},
		{group(either(deep(1, either(b, a)), a)), "bc"},
		{both(a, both(soft, both(blank, both(zero, both(either(b, a), both(deep(1, b), group(a))))))), "a bcbca"},
	} {
		ask(t, c.d, c.want, true)
	}
}

func TestNotFlat(t *testing.T) {
	for _, d := range [][]api.Node{
		newl,
		broken,
		both(newl, a),
		both(a, newl),
		both(newl, newl),
		deep(0, newl),
		deep(8, broken),
		group(newl),
		group(broken),
		either(newl, a),
		either(broken, a),
		either(newl, newl),
		either(either(newl, a), a),
		either(group(deep(1, broken)), b),
		both(a, both(b, group(deep(2, both(a, either(both(a, newl), b)))))),
		both(either(a, newl), newl),
		both(either(newl, a), either(a, newl)),
	} {
		ask(t, d, "", false)
	}
}

// TestLineAside: a Line in the second part of an Either is not had so.
func TestLineAside(t *testing.T) {
	for _, c := range []struct {
		d    []api.Node
		want string
	}{
		{either(a, newl), "a"},
		{either(b, broken), "bc"},
		{either(zero, newl), ""},
		{either(either(a, newl), newl), "a"},
		{either(a, either(newl, newl)), "a"},
		{either(a, either(newl, b)), "a"},
		{either(a, either(b, newl)), "a"},
		{both(either(a, group(deep(2, both(newl, newl)))), b), "abc"},
		{group(both(either(a, newl), either(b, newl))), "abc"},
	} {
		ask(t, c.d, c.want, true)
	}
}

func TestSizes(t *testing.T) {
	for _, n := range []int{1, 2, 3, 399, 400} {
		ask(t, within(n, a), "a", true)
		ask(t, within(n, newl), "", false)
		ask(t, within(n, blank), " ", true)
		if n > 2 {
			ask(t, within(n, either(a, newl)), "a", true)
			ask(t, within(n, either(newl, a)), "", false)
		}
	}
	longest := strings.Repeat("x", 20)
	left, right := word(longest), word(longest)
	first, last := newl, newl
	for range 198 {
		left, right = both(left, word(longest)), both(word(longest), right)
		first, last = either(first, a), either(a, last)
	}
	ask(t, left, strings.Repeat(longest, 199), true)
	ask(t, right, strings.Repeat(longest, 199), true)
	ask(t, first, "", false)
	ask(t, last, "a", true)
	ask(t, group(deep(1, group(left))), strings.Repeat(longest, 199), true)
	ask(t, both(zero, deep(1, right)), strings.Repeat(longest, 199), true)
}

// TestWrong: what Check says is said, and nothing beside it, be there a Line or none.
func TestWrong(t *testing.T) {
	for _, c := range []struct {
		d    []api.Node
		want api.Errno
	}{
		{nil, api.ErrShape},
		{[]api.Node{}, api.ErrShape},
		{within(401, a), api.ErrFull},
		{within(401, newl), api.ErrFull},
		{make([]api.Node, 401), api.ErrFull},
		{make([]api.Node, 400), api.ErrRange},
		{[]api.Node{{Op: 0}}, api.ErrRange},
		{[]api.Node{{Op: 10}}, api.ErrRange},
		{[]api.Node{{Op: -1}}, api.ErrRange},
		{[]api.Node{{Op: math.MaxInt}}, api.ErrRange},
		{[]api.Node{{Op: math.MinInt}}, api.ErrRange},
		{[]api.Node{{Op: api.Line, Text: "a"}}, api.ErrShape},
		{[]api.Node{{Op: api.Blank, N: 1}}, api.ErrShape},
		{[]api.Node{{Op: api.Word, Text: "a", N: 1}}, api.ErrShape},
		{word(""), api.ErrSyntax},
		{word("\n"), api.ErrSyntax},
		{word("\x7f"), api.ErrSyntax},
		{word("é"), api.ErrSyntax},
		{word(strings.Repeat("x", 21)), api.ErrSyntax},
		{deep(9, a), api.ErrRange},
		{deep(-1, newl), api.ErrRange},
		{both(a, nil), api.ErrShape},
		{both(newl, nil), api.ErrShape},
		{either(a, nil), api.ErrShape},
		{group(nil), api.ErrShape},
		{deep(1, nil), api.ErrShape},
		{both(a, both(b, a))[:4], api.ErrShape},
		{slices.Concat(a, a), api.ErrShape},
		{slices.Concat(group(a), newl), api.ErrShape},
		{either(a, word("")), api.ErrSyntax},
		{either(newl, deep(9, a)), api.ErrRange},
		{both(newl, word("")), api.ErrSyntax},
	} {
		text, is, err := Flat(c.d)
		if text != "" || is || plain.Told(err) != c.want {
			t.Errorf("Flat of %d nodes %.9v: %q, %v, %v, want %v", len(c.d), c.d, text, is, err, c.want)
		}
		n, is, err := Long(c.d)
		if n != 0 || is || plain.Told(err) != c.want {
			t.Errorf("Long of %d nodes %.9v: %d, %v, %v, want %v", len(c.d), c.d, n, is, err, c.want)
		}
	}
}

// grow makes a doc from its top, and tells its one line as it grows; a byte 10 stands there for a Line.
func grow(r *rand.Rand, deepest int) ([]api.Node, string) {
	o := 1 + r.Intn(9)
	if deepest == 0 {
		o = 1 + r.Intn(5)
	}
	switch o {
	case api.Word:
		text := strings.Repeat(string(rune(32+r.Intn(95))), 1+r.Intn(20))
		return word(text), text
	case api.Blank:
		return blank, " "
	case api.Line:
		if r.Intn(3) == 0 {
			return newl, "\n"
		}
		return soft, ""
	case api.Both:
		x, textX := grow(r, deepest-1)
		y, textY := grow(r, deepest-1)
		return both(x, y), textX + textY
	case api.Deep:
		x, text := grow(r, deepest-1)
		return deep(r.Intn(9), x), text
	case api.Group:
		x, text := grow(r, deepest-1)
		return group(x), text
	case api.Either:
		x, text := grow(r, deepest-1)
		y, _ := grow(r, deepest-1)
		return either(x, y), text
	}
	return zero, ""
}

func TestGrown(t *testing.T) {
	r := rand.New(rand.NewSource(3))
	for range 3000 {
		d, want := grow(r, r.Intn(8))
		if err := doc.Check(d); err != nil {
			t.Fatalf("%v: %v", d, err)
		}
		is := !strings.Contains(want, "\n")
		if !is {
			want = ""
		}
		ask(t, d, want, is)
	}
}

// TestBehindTheLength: what lies behind a list's length is neither read nor written.
func TestBehindTheLength(t *testing.T) {
	all := slices.Concat(group(both(a, b)), newl, []api.Node{{Op: 77}})
	kept := slices.Clone(all)
	ask(t, all[:4], "abc", true)
	if text, is, err := Flat(all[:3]); text != "" || is || plain.Told(err) != api.ErrShape {
		t.Errorf("a part that lies behind the length is taken: %q, %v, %v", text, is, err)
	}
	if !slices.Equal(all, kept) {
		t.Errorf("%v was %v", all, kept)
	}
}
