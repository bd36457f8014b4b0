package doc

import (
	"fmt"
	"math"
	"math/rand"
	"slices"
	"strings"
	"testing"

	"pargetry/api"
	"pargetry/plain"
)

func word(text string) api.Node { return api.Node{Op: api.Word, Text: text} }

func deep(n int) api.Node { return api.Node{Op: api.Deep, N: n} }

func op(op int) api.Node { return api.Node{Op: op} }

// chain is a doc of n nodes: deeper and deeper, and one word at last.
func chain(n int) []api.Node {
	return append(slices.Repeat([]api.Node{op(api.Group)}, n-1), word("x"))
}

func TestNumbers(t *testing.T) {
	if api.MaxNodes != 400 || api.MaxWord != 20 || api.MaxDeep != 8 {
		t.Errorf("MaxNodes %d, MaxWord %d, MaxDeep %d", api.MaxNodes, api.MaxWord, api.MaxDeep)
	}
	got := []int{api.Word, api.Blank, api.Soft, api.Line, api.Zero, api.Both, api.Deep, api.Group, api.Either}
	for i, n := range got {
		if n != i+1 {
			t.Errorf("op %d is %d", i+1, n)
		}
	}
}

// told asks all three calls, which must say the same error of a wrong doc, and nothing beside it.
func told(t *testing.T, d []api.Node) api.Errno {
	t.Helper()
	e := plain.Told(Check(d))
	end, errEnd := End(d, 0)
	text, errText := Text(d)
	if plain.Told(errEnd) != e || plain.Told(errText) != e {
		t.Errorf("%v: Check %v, End %v, Text %v", d, e, errEnd, errText)
	}
	if e != api.OK && (end != 0 || text != "") {
		t.Errorf("%v: %v, yet %d, %q", d, e, end, text)
	}
	return e
}

func TestCheckNode(t *testing.T) {
	far := []int{math.MinInt, -1000, -1, 10, 11, 1000, math.MaxInt}
	for _, o := range append(far, 0) {
		for _, node := range []api.Node{{Op: o}, {Op: o, Text: "a"}, {Op: o, N: 1}, {Op: o, Text: "\x00", N: -1}} {
			if e := told(t, []api.Node{node}); e != api.ErrRange {
				t.Errorf("%v: %v", node, e)
			}
		}
	}
	for o := api.Word; o <= api.Either; o++ {
		if o != api.Word {
			for _, text := range []string{"a", "\n", strings.Repeat("a", 21)} {
				for _, n := range []int{0, 9, -1} {
					if e := told(t, []api.Node{{Op: o, Text: text, N: n}}); e != api.ErrShape {
						t.Errorf("op %d, text %q, N %d: %v", o, text, n, e)
					}
				}
			}
		}
		if o != api.Deep {
			for _, n := range []int{1, -1, math.MinInt, math.MaxInt} {
				for _, text := range []string{"", "a", "\n"} {
					if e := told(t, []api.Node{{Op: o, Text: text, N: n}}); e != api.ErrShape {
						t.Errorf("op %d, text %q, N %d: %v", o, text, n, e)
					}
				}
			}
		}
	}
}

func TestCheckWord(t *testing.T) {
	for n := range 45 {
		want := api.OK
		if n < 1 || n > 20 {
			want = api.ErrSyntax
		}
		if e := told(t, []api.Node{word(strings.Repeat("a", n))}); e != want {
			t.Errorf("%d bytes: %v", n, e)
		}
	}
	for b := range 256 {
		want := api.ErrSyntax
		if 32 <= b && b <= 126 {
			want = api.OK
		}
		c := string([]byte{byte(b)})
		for _, text := range []string{c, "a" + c, c + "a", "a" + c + "a", strings.Repeat("a", 19) + c} {
			if e := told(t, []api.Node{word(text)}); e != want {
				t.Errorf("%q: %v", text, e)
			}
		}
	}
	for _, text := range []string{"é", "aé", "世", "\xff\xfe"} {
		if e := told(t, []api.Node{word(text)}); e != api.ErrSyntax {
			t.Errorf("%q: %v", text, e)
		}
	}
}

func TestCheckDeep(t *testing.T) {
	for _, n := range []int{math.MinInt, -9, -1, 0, 1, 7, 8, 9, 10, math.MaxInt} {
		want := api.ErrRange
		if 0 <= n && n <= 8 {
			want = api.OK
		}
		if e := told(t, []api.Node{deep(n), word("a")}); e != want {
			t.Errorf("N %d: %v", n, e)
		}
	}
}

// TestCheckOrder: node by node, and that there is just one doc at last.
func TestCheckOrder(t *testing.T) {
	wrong := []struct {
		node api.Node
		want api.Errno
	}{
		{op(0), api.ErrRange},
		{op(10), api.ErrRange},
		{api.Node{Op: api.Blank, Text: "a"}, api.ErrShape},
		{api.Node{Op: api.Both, N: 1}, api.ErrShape},
		{word(""), api.ErrSyntax},
		{word("\x7f"), api.ErrSyntax},
		{deep(9), api.ErrRange},
		{deep(-1), api.ErrRange},
	}
	for _, a := range wrong {
		for _, b := range wrong {
			for _, d := range [][]api.Node{
				{a.node, b.node},
				{op(api.Both), a.node, b.node},
				{op(api.Zero), a.node, op(api.Both), b.node},
			} {
				if e := told(t, d); e != a.want {
					t.Errorf("%v: %v, want %v", d, e, a.want)
				}
			}
		}
		full := append(chain(api.MaxNodes), a.node)
		if e := told(t, full); e != api.ErrFull {
			t.Errorf("%v behind 400 others: %v", a.node, e)
		}
		full[0], full[1] = a.node, a.node
		if e := told(t, full); e != api.ErrFull {
			t.Errorf("%v ahead of 399 others: %v", a.node, e)
		}
		full = append(chain(api.MaxNodes-1), a.node)
		if e := told(t, full); e != a.want {
			t.Errorf("%v behind 399 others: %v", a.node, e)
		}
	}
}

func TestCheckSize(t *testing.T) {
	for _, c := range []struct {
		d    []api.Node
		want api.Errno
	}{
		{nil, api.ErrShape},
		{[]api.Node{}, api.ErrShape},
		{chain(1), api.OK},
		{chain(2), api.OK},
		{chain(399), api.OK},
		{chain(400), api.OK},
		{chain(401), api.ErrFull},
		{chain(5000), api.ErrFull},
		{chain(401)[:400], api.ErrShape},
		{chain(401)[1:], api.OK},
		{make([]api.Node, 401), api.ErrFull},
		{make([]api.Node, 400), api.ErrRange},
		{slices.Repeat([]api.Node{op(api.Both)}, 400), api.ErrShape},
		{slices.Repeat([]api.Node{op(api.Zero)}, 400), api.ErrShape},
	} {
		if e := told(t, c.d); e != c.want {
			t.Errorf("%d nodes: %v, want %v", len(c.d), e, c.want)
		}
	}
}

// TestCheckParts: of every op so many parts as it has, and no other number.
func TestCheckParts(t *testing.T) {
	has := map[int]int{api.Both: 2, api.Either: 2, api.Deep: 1, api.Group: 1}
	for o := api.Word; o <= api.Either; o++ {
		first := op(o)
		if o == api.Word {
			first = word("a")
		}
		for n := range 5 {
			want := api.ErrShape
			if n == has[o] {
				want = api.OK
			}
			d := append([]api.Node{first}, slices.Repeat([]api.Node{word("b")}, n)...)
			if e := told(t, d); e != want {
				t.Errorf("op %d with %d parts: %v", o, n, e)
			}
			// The same again inside: what a part lacks or has too many of is not made good around it.
			inner := append([]api.Node{op(api.Group), op(api.Deep)}, d...)
			if e := told(t, inner); e != want {
				t.Errorf("op %d with %d parts, inside: %v", o, n, e)
			}
		}
	}
}

func TestText(t *testing.T) {
	for _, c := range []struct {
		d    []api.Node
		want string
	}{
		{[]api.Node{word("a")}, `"a"`},
		{[]api.Node{word(`"`)}, `"""`},
		{[]api.Node{word(` \`)}, `" \"`},
		{[]api.Node{word("~ !#$%&'()*+,-./0123")}, `"~ !#$%&'()*+,-./0123"`},
		{[]api.Node{op(api.Blank)}, "_"},
		{[]api.Node{op(api.Soft)}, "."},
		{[]api.Node{op(api.Line)}, "/"},
		{[]api.Node{op(api.Zero)}, "0"},
		{[]api.Node{op(api.Both), word("a"), word("b")}, `("a""b")`},
		{[]api.Node{deep(0), op(api.Zero)}, "0>0"},
		{[]api.Node{deep(8), op(api.Line)}, "8>/"},
		{[]api.Node{op(api.Group), op(api.Soft)}, "[.]"},
		{[]api.Node{op(api.Either), op(api.Blank), op(api.Line)}, "{_|/}"},
		{[]api.Node{op(api.Both), word("a"), deep(2), op(api.Blank)}, `("a"2>_)`},
		{[]api.Node{op(api.Both), op(api.Both), op(api.Zero), op(api.Soft), op(api.Line)}, "((0.)/)"},
		{[]api.Node{op(api.Both), op(api.Zero), op(api.Both), op(api.Soft), op(api.Line)}, "(0(./))"},
		{[]api.Node{op(api.Either), op(api.Either), op(api.Zero), op(api.Soft), op(api.Line)}, "{{0|.}|/}"},
		{[]api.Node{op(api.Either), op(api.Zero), op(api.Either), op(api.Soft), op(api.Line)}, "{0|{.|/}}"},
		{[]api.Node{deep(1), deep(2), op(api.Group), deep(3), word("x")}, `1>2>[3>"x"]`},
		{[]api.Node{op(api.Group), op(api.Either), op(api.Group), word("p"), deep(4), op(api.Both), op(api.Line), word("q")}, `[{["p"]|4>(/"q")}]`},
		{chain(400), strings.Repeat("[", 399) + `"x"` + strings.Repeat("]", 399)},
	} {
		got, err := Text(c.d)
		if err != nil || got != c.want {
			t.Errorf("%v: %q, %v, want %q", c.d, got, err, c.want)
		}
	}
}

func TestTextOfEveryDepth(t *testing.T) {
	for n := range 9 {
		got, err := Text([]api.Node{deep(n), word("a")})
		if want := fmt.Sprintf(`%d>"a"`, n); err != nil || got != want {
			t.Errorf("%q, %v, want %q", got, err, want)
		}
	}
}

func TestEnd(t *testing.T) {
	d := []api.Node{op(api.Both), word("a"), deep(2), op(api.Either), op(api.Group), op(api.Blank), op(api.Both), op(api.Soft), op(api.Zero)}
	want := []int{9, 2, 9, 9, 6, 6, 9, 8, 9}
	for i, w := range want {
		if got, err := End(d, i); err != nil || got != w {
			t.Errorf("End(d, %d): %d, %v, want %d", i, got, err, w)
		}
	}
	for _, i := range []int{math.MinInt, -9, -1, 9, 10, 400, math.MaxInt} {
		if got, err := End(d, i); got != 0 || plain.Told(err) != api.ErrRange {
			t.Errorf("End(d, %d): %d, %v", i, got, err)
		}
	}
	for i := range 400 {
		if got, err := End(chain(400), i); err != nil || got != 400 {
			t.Errorf("End of 400 nodes at %d: %d, %v", i, got, err)
		}
	}
}

// TestEndChecksFirst: what is wrong with the doc is told, wherever the place is.
func TestEndChecksFirst(t *testing.T) {
	for _, c := range []struct {
		d    []api.Node
		want api.Errno
	}{
		{nil, api.ErrShape},
		{[]api.Node{op(api.Both), word("a")}, api.ErrShape},
		{[]api.Node{word("a"), word("a")}, api.ErrShape},
		{[]api.Node{op(api.Both), word("a"), word("")}, api.ErrSyntax},
		{chain(401), api.ErrFull},
		{[]api.Node{op(0)}, api.ErrRange},
	} {
		for _, i := range []int{math.MinInt, -1, 0, 1, 2, 401, math.MaxInt} {
			if got, err := End(c.d, i); got != 0 || plain.Told(err) != c.want {
				t.Errorf("End of %d nodes at %d: %d, %v, want %v", len(c.d), i, got, err, c.want)
			}
		}
	}
}

// grown is a doc made from its top, with its text and the ends of its nodes told as it grows.
type grown struct {
	d    []api.Node
	ends []int
}

func (g *grown) grow(r *rand.Rand, deepest int) string {
	at := len(g.d)
	o := 1 + r.Intn(9)
	if deepest == 0 {
		o = 1 + r.Intn(5)
	}
	node := op(o)
	g.d, g.ends = append(g.d, node), append(g.ends, 0)
	var text string
	switch o {
	case api.Word:
		b := make([]byte, 1+r.Intn(20))
		for i := range b {
			b[i] = byte(32 + r.Intn(95))
		}
		node.Text = string(b)
		text = `"` + node.Text + `"`
	case api.Blank, api.Soft, api.Line, api.Zero:
		text = string("_./0"[o-2])
	case api.Both:
		text = "(" + g.grow(r, deepest-1) + g.grow(r, deepest-1) + ")"
	case api.Deep:
		node.N = r.Intn(9)
		text = fmt.Sprint(node.N) + ">" + g.grow(r, deepest-1)
	case api.Group:
		text = "[" + g.grow(r, deepest-1) + "]"
	case api.Either:
		text = "{" + g.grow(r, deepest-1) + "|" + g.grow(r, deepest-1) + "}"
	}
	g.d[at], g.ends[at] = node, len(g.d)
	return text
}

// TestGrown: docs of all forms, whole and with a node taken from or put to them.
func TestGrown(t *testing.T) {
	r := rand.New(rand.NewSource(2))
	for range 2000 {
		var g grown
		want := g.grow(r, r.Intn(8))
		kept := slices.Clone(g.d)
		if got, err := Text(g.d); err != nil || got != want {
			t.Fatalf("%v: %q, %v, want %q", g.d, got, err, want)
		}
		for i, end := range g.ends {
			if got, err := End(g.d, i); err != nil || got != end {
				t.Fatalf("%s at %d: %d, %v, want %d", want, i, got, err, end)
			}
			if sub := g.d[i:end]; Check(sub) != nil {
				t.Fatalf("%s: the doc at %d is none", want, i)
			}
		}
		for i := range g.d {
			if e := told(t, g.d[:i]); e != api.ErrShape {
				t.Fatalf("%s: %d nodes of it: %v", want, i, e)
			}
		}
		more := append(slices.Clone(g.d), op(api.Zero))
		if e := told(t, more); e != api.ErrShape {
			t.Fatalf("%s, and 0: %v", want, e)
		}
		if !slices.Equal(g.d, kept) {
			t.Fatalf("%s was written into", want)
		}
	}
}

// TestBehindTheLength: what lies behind a list's length is neither read nor written.
func TestBehindTheLength(t *testing.T) {
	all := []api.Node{op(api.Group), op(api.Both), word("a"), word("b"), op(77)}
	kept := slices.Clone(all)
	if e := told(t, all[:3]); e != api.ErrShape {
		t.Errorf("a part that lies behind the length is taken: %v", e)
	}
	if text, err := Text(all[:4]); err != nil || text != `[("a""b")]` {
		t.Errorf("%q, %v", text, err)
	}
	if !slices.Equal(all, kept) {
		t.Errorf("%v was %v", all, kept)
	}
}
