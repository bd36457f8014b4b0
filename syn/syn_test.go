package syn

import (
	"fmt"
	"math"
	"math/rand"
	"slices"
	"strings"
	"testing"
	"time"
	"unsafe"

	"pargetry/api"
	"pargetry/lex"
	"pargetry/plain"
	"pargetry/tree"
)

func num(n int) api.Tree { return api.Tree{Op: api.Num, N: n} }

func name(text string) api.Tree { return api.Tree{Op: api.Name, Text: text} }

func call(text string, n int) api.Tree { return api.Tree{Op: api.Call, Text: text, N: n} }

func list(n int) api.Tree { return api.Tree{Op: api.List, N: n} }

func let(text string) api.Tree { return api.Tree{Op: api.Let, Text: text} }

func note(text string) api.Tree { return api.Tree{Op: api.Note, Text: text} }

var (
	sum = api.Tree{Op: api.Sum}
	mul = api.Tree{Op: api.Mul}
	do  = api.Tree{Op: api.Do}
)

// row puts nodes into a list.
func row(nodes ...api.Tree) []api.Tree { return nodes }

// prog puts statements into a program.
func prog(statements ...[]api.Tree) [][]api.Tree { return statements }

func same(p, q [][]api.Tree) bool { return slices.EqualFunc(p, q, slices.Equal[[]api.Tree]) }

func copied(p [][]api.Tree) [][]api.Tree {
	var q [][]api.Tree
	for _, s := range p {
		q = append(q, slices.Clone(s))
	}
	return q
}

// reads asks that a text is just this program.
func reads(t *testing.T, text string, p [][]api.Tree) {
	t.Helper()
	got, place, err := Parse(text)
	if !same(got, p) || place != 0 || err != nil {
		t.Errorf("%.300q: %.300s, %d, %v, want %.300s", text, fmt.Sprint(got), place, err, fmt.Sprint(p))
	}
}

// refuse asks that a text has an error and a place, and nothing beside them.
func refuse(t *testing.T, text string, place int, want api.Errno) {
	t.Helper()
	p, got, err := Parse(text)
	if len(p) != 0 || got != place || plain.Told(err) != want {
		t.Errorf("%.300q: %.100s, %d, %v, want %d, %v", text, fmt.Sprint(p), got, err, place, want)
	}
}

// stops asks that the word behind the `^` of a text cannot stand there; the `^` is no part of it.
func stops(t *testing.T, marked string) {
	t.Helper()
	ahead, behind, is := strings.Cut(marked, "^")
	if !is {
		t.Fatalf("%q has no ^", marked)
	}
	refuse(t, ahead+behind, len(ahead), api.ErrSyntax)
}

// tells asks that a program cannot be printed.
func tells(t *testing.T, p [][]api.Tree, want api.Errno) {
	t.Helper()
	if text, err := Print(p); text != "" || plain.Told(err) != want {
		t.Errorf("%.300s: %.100q, %v, want %v", fmt.Sprint(p), text, err, want)
	}
	if _, err := tree.All(p); plain.Told(err) != want {
		t.Errorf("%.300s: All %v, want %v", fmt.Sprint(p), err, want)
	}
}

// both asks that a program is printed as this text, and read back from it.
func both(t *testing.T, p [][]api.Tree, text string) {
	t.Helper()
	kept := copied(p)
	if got, err := Print(p); got != text || err != nil {
		t.Errorf("%.300s: %.300q, %v, want %.300q", fmt.Sprint(p), got, err, text)
	}
	if !same(p, kept) {
		t.Errorf("%v was %v", p, kept)
	}
	reads(t, text, p)
}

// shown asks that an expression is printed as this text, wherever it stands, and read back from it.
func shown(t *testing.T, e []api.Tree, text string) {
	t.Helper()
	one := append(row(do), e...)
	two := append(row(let("abcdefgh")), e...)
	both(t, prog(one), text+";\n")
	both(t, prog(two), "let abcdefgh = "+text+";\n")
	both(t, prog(one, row(note("a b")), two, one), text+";\n# a b\nlet abcdefgh = "+text+";\n"+text+";\n")
	both(t, prog(append(row(do, list(1)), e...)), "["+text+"];\n")
	both(t, prog(append(append(row(do, call("f", 3), num(1)), e...), name("b"))), "f(1, "+text+", b);\n")
}

func TestExample(t *testing.T) {
	both(t, prog(
		row(note("so it is")),
		row(let("a"), mul, sum, num(1), name("b"), num(2)),
		row(do, call("f", 2), list(3), num(1), num(2), num(3), call("g", 0)),
		row(note("")),
	), "# so it is\nlet a = (1 + b) * 2;\nf([1, 2, 3], g());\n#\n")
	// Those of README.md.
	p := prog(row(note("so it is")), row(let("x"), sum, num(1), call("f", 1), name("a")))
	both(t, p, "# so it is\nlet x = 1 + f(a);\n")
	reads(t, "#so\n# it is\nlet x=(1+f((a)));", p)
	stops(t, "a + ^;")
	stops(t, "a^")
	refuse(t, "[1,2,3,4,5,6,7];", 0, api.ErrRange)
}

func TestKinds(t *testing.T) {
	for _, n := range []int{0, 1, 9, 10, 11, 99, 100, 12345, 99999, 100000, 999998, 999999} {
		shown(t, row(num(n)), fmt.Sprint(n))
	}
	for _, text := range []string{"a", "z", "le", "lets", "letlet", "alet", "do", "note", "abcdefgh", "zzzzzzzz"} {
		shown(t, row(name(text)), text)
		shown(t, row(call(text, 0)), text+"()")
		shown(t, row(call(text, 1), name(text)), text+"("+text+")")
		both(t, prog(row(let(text), name(text))), "let "+text+" = "+text+";\n")
	}
	shown(t, row(list(0)), "[]")
	shown(t, row(sum, num(1), name("b")), "1 + b")
	shown(t, row(mul, num(1), name("b")), "1 * b")
	both(t, nil, "")
	both(t, prog(row(note("a"))), "# a\n")
	both(t, prog(row(do, num(1)), row(note("a")), row(do, num(1)), row(note("a"))), "1;\n# a\n1;\n# a\n")
}

// TestKids: calls and lists of so many kids, within one another.
func TestKids(t *testing.T) {
	forms := []struct {
		node      func(n int) api.Tree
		open, end string
	}{{list, "[", "]"}, {func(n int) api.Tree { return call("fgh", n) }, "fgh(", ")"}}
	for _, a := range forms {
		for n := range api.MaxKids + 1 {
			e := append(row(a.node(n)), slices.Repeat(row(num(7)), n)...)
			text := a.open + strings.Join(slices.Repeat([]string{"7"}, n), ", ") + a.end
			shown(t, e, text)
			for _, b := range forms {
				// As all kids, so many as there is room for, and as one of MaxKids kids.
				for k := range 30/len(e) + 1 {
					k = min(k, api.MaxKids)
					shown(t, append(row(b.node(k)), slices.Repeat(e, k)...), b.open+strings.Join(slices.Repeat([]string{text}, k), ", ")+b.end)
				}
				shown(t, slices.Concat(row(b.node(api.MaxKids), num(1), num(2)), e, row(num(4), num(5), num(6))), b.open+"1, 2, "+text+", 4, 5, 6"+b.end)
			}
		}
		for n := 1; n <= 30; n++ {
			e := append(slices.Repeat(row(a.node(1)), n), a.node(0))
			shown(t, e, strings.Repeat(a.open, n+1)+strings.Repeat(a.end, n+1))
		}
	}
	shown(t, row(call("f", 2), sum, num(1), num(2), list(2), mul, num(3), num(4), call("g", 1), sum, num(5), num(6)), "f(1 + 2, [3 * 4, g(5 + 6)])")
}

// TestNeeded: a Sum and a Mul as both kids of both, with brackets where they are needed.
func TestNeeded(t *testing.T) {
	a, b, c, d := name("a"), name("b"), name("c"), name("d")
	for _, c := range []struct {
		e    []api.Tree
		text string
	}{
		{row(sum, sum, a, b, c), "a + b + c"},
		{row(sum, mul, a, b, c), "a * b + c"},
		{row(mul, sum, a, b, c), "(a + b) * c"},
		{row(mul, mul, a, b, c), "a * b * c"},
		{row(sum, a, sum, b, c), "a + (b + c)"},
		{row(sum, a, mul, b, c), "a + b * c"},
		{row(mul, a, sum, b, c), "a * (b + c)"},
		{row(mul, a, mul, b, c), "a * (b * c)"},
		{row(sum, sum, a, b, sum, c, d), "a + b + (c + d)"},
		{row(sum, mul, a, b, mul, c, d), "a * b + c * d"},
		{row(sum, sum, a, b, mul, c, d), "a + b + c * d"},
		{row(sum, mul, a, b, sum, c, d), "a * b + (c + d)"},
		{row(mul, sum, a, b, sum, c, d), "(a + b) * (c + d)"},
		{row(mul, mul, a, b, mul, c, d), "a * b * (c * d)"},
		{row(mul, sum, a, b, mul, c, d), "(a + b) * (c * d)"},
		{row(mul, mul, a, b, sum, c, d), "a * b * (c + d)"},
		{row(mul, a, mul, b, sum, c, d), "a * (b * (c + d))"},
		{row(sum, a, sum, b, sum, c, d), "a + (b + (c + d))"},
		{row(sum, a, mul, b, sum, c, d), "a + b * (c + d)"},
		{row(mul, a, sum, b, mul, c, d), "a * (b + c * d)"},
		// What stands between brackets of its own needs none.
		{row(mul, list(1), sum, a, b, call("f", 1), sum, c, d), "[a + b] * f(c + d)"},
		{row(sum, num(1), list(1), sum, a, b), "1 + [a + b]"},
		{row(mul, num(1), call("f", 2), mul, a, b, mul, c, d), "1 * f(a * b, c * d)"},
		{row(mul, num(1), list(0)), "1 * []"},
		{row(sum, call("f", 0), call("g", 0)), "f() + g()"},
	} {
		shown(t, c.e, c.text)
	}
}

// TestNeedsBrackets: of all Ops, and of numbers that are none.
func TestNeedsBrackets(t *testing.T) {
	needed := [][3]int{{api.Mul, 0, api.Sum}, {api.Mul, 1, api.Sum}, {api.Sum, 1, api.Sum}, {api.Mul, 1, api.Mul}}
	numbers := []int{math.MinInt, -1, 0, 1, 2, 3, 4, 5, 6, 7, 8, 9, 10, math.MaxInt}
	for _, op := range numbers {
		for _, kid := range numbers {
			for place := range 2 {
				want := slices.Contains(needed, [3]int{op, place, kid})
				if got := NeedsBrackets(kid, op, place == 1); got != want {
					t.Errorf("kid %d of %d at %d: %v, want %v", kid, op, place, got, want)
				}
			}
		}
	}
}

func TestPrintNotes(t *testing.T) {
	words := strings.Split(strings.Repeat("ab #c ; let ", 15), " ")[:60]
	for n := 1; n <= 60; n++ {
		text := strings.Join(words[:n], " ")
		both(t, prog(row(note(text))), "# "+text+"\n")
		both(t, prog(row(do, num(1)), row(note(text)), row(do, num(2))), "1;\n# "+text+"\n2;\n")
	}
	both(t, prog(row(note(""))), "#\n")
	both(t, prog(row(note("")), row(do, num(1)), row(note(""))), "#\n1;\n#\n")
	for _, text := range []string{"#", "# #", "##", "!~", "a;b", "let a = 1;", "A_Z", "01", "abcdefghijklmnopqrst"} {
		both(t, prog(row(note(text))), "# "+text+"\n")
	}
}

// chain is a statement of n nodes: lists of one another, and a number at last.
func chain(n int) []api.Tree {
	return append(append(row(do), slices.Repeat(row(list(1)), n-2)...), num(0))
}

// TestGreatest: as much of all as chapter 8 allows.
func TestGreatest(t *testing.T) {
	both(t, prog(chain(40)), strings.Repeat("[", 38)+"0"+strings.Repeat("]", 38)+";\n")
	for n := range api.MaxLines + 1 {
		both(t, slices.Repeat(prog(row(do, num(1))), n), strings.Repeat("1;\n", n))
	}
	for _, form := range []struct {
		op   api.Tree
		text string
	}{{sum, " + "}, {mul, " * "}} {
		left := slices.Concat(row(do), slices.Repeat(row(form.op), 19), slices.Repeat(row(num(5)), 20))
		both(t, prog(left), "5"+strings.Repeat(form.text+"5", 19)+";\n")
		right := slices.Concat(row(do), slices.Repeat(row(form.op, num(5)), 19), row(num(5)))
		both(t, prog(right), strings.Repeat("5"+form.text+"(", 18)+"5"+form.text+"5"+strings.Repeat(")", 18)+";\n")
	}
	// More words than chapter 7 allows may be printed, though not read.
	text, err := Print(slices.Repeat(prog(chain(40)), 20))
	if want := strings.Repeat(strings.Repeat("[", 38)+"0"+strings.Repeat("]", 38)+";\n", 20); text != want || err != nil {
		t.Errorf("%.100q, %v", text, err)
	}
	refuse(t, text, 0, api.ErrFull)
}

// wrong are statements, and what chapter 8 says of them.
var wrong = []struct {
	s    []api.Tree
	want api.Errno
}{
	{nil, api.ErrShape},
	{row(num(1)), api.ErrShape},
	{row(do), api.ErrShape},
	{row(do, num(1), num(2)), api.ErrShape},
	{row(do, sum, num(1)), api.ErrShape},
	{row(do, list(6), num(1)), api.ErrShape},
	{row(do, do, num(1)), api.ErrShape},
	{row(do, note("a")), api.ErrShape},
	{row(note("a"), num(1)), api.ErrShape},
	{row(let("a"), let("b"), num(1)), api.ErrShape},
	{row(do, api.Tree{Op: api.Num, Text: "a"}), api.ErrShape},
	{row(do, api.Tree{Op: api.Name, Text: "a", N: 1}), api.ErrShape},
	{row(api.Tree{Op: api.Do, N: 1}, num(1)), api.ErrShape},
	{row(api.Tree{}), api.ErrRange},
	{row(api.Tree{Op: 10}), api.ErrRange},
	{row(do, api.Tree{Op: math.MinInt}), api.ErrRange},
	{row(do, num(-1)), api.ErrRange},
	{row(do, num(1000000)), api.ErrRange},
	{row(do, num(math.MaxInt)), api.ErrRange},
	{append(row(do, list(7)), slices.Repeat(row(num(1)), 7)...), api.ErrRange},
	{append(row(do, call("f", 7)), slices.Repeat(row(num(1)), 7)...), api.ErrRange},
	{row(do, call("f", math.MaxInt)), api.ErrRange},
	{row(do, list(math.MinInt)), api.ErrRange},
	{row(do, name("")), api.ErrSyntax},
	{row(do, name("let")), api.ErrSyntax},
	{row(do, name("A")), api.ErrSyntax},
	{row(do, name("abcdefghi")), api.ErrSyntax},
	{row(do, call("let", 0)), api.ErrSyntax},
	{row(do, call("", 0)), api.ErrSyntax},
	{row(let("let"), num(1)), api.ErrSyntax},
	{row(let(""), num(1)), api.ErrSyntax},
	{row(note(" ")), api.ErrSyntax},
	{row(note("a  b")), api.ErrSyntax},
	{row(note("a\nb")), api.ErrSyntax},
	{row(note("é")), api.ErrSyntax},
	{row(note(strings.Repeat("a", 21))), api.ErrSyntax},
	{row(note(strings.Repeat("a ", 60) + "a")), api.ErrFull},
	{chain(41), api.ErrFull},
	{make([]api.Tree, 41), api.ErrFull},
}

func TestPrintWrong(t *testing.T) {
	good := row(do, num(1))
	for _, w := range wrong {
		tells(t, prog(w.s), w.want)
		tells(t, prog(good, w.s), w.want)
		tells(t, prog(w.s, good), w.want)
		tells(t, append(slices.Repeat(prog(good), 19), w.s), w.want)
		// Too many statements come first, then the first one that is wrong.
		tells(t, append(slices.Repeat(prog(good), 20), w.s), api.ErrFull)
		for _, v := range wrong {
			tells(t, prog(good, w.s, v.s), w.want)
		}
	}
	a, b := row(note("a")), row(note(""))
	tells(t, prog(a, a), api.ErrShape)
	tells(t, prog(b, b), api.ErrShape)
	tells(t, prog(good, a, b, good), api.ErrShape)
	tells(t, prog(a, row(note("a  b"))), api.ErrSyntax)
	tells(t, slices.Repeat(prog(good), 21), api.ErrFull)
	tells(t, make([][]api.Tree, 21), api.ErrFull)
	tells(t, make([][]api.Tree, 20), api.ErrShape)
	tells(t, slices.Repeat(prog(a), 10000), api.ErrFull)
}

func TestMoreBrackets(t *testing.T) {
	// About expressions that need none.
	for _, c := range []struct {
		e    []api.Tree
		text string
	}{
		{row(num(12)), "12"},
		{row(name("ab")), "ab"},
		{row(call("f", 0)), "f()"},
		{row(call("f", 2), num(1), num(2)), "f(1, 2)"},
		{row(list(0)), "[]"},
		{row(list(2), num(1), num(2)), "[1, 2]"},
		{row(sum, num(1), num(2)), "1 + 2"},
		{row(mul, num(1), num(2)), "1 * 2"},
	} {
		for n := range 60 {
			text := strings.Repeat("(", n) + c.text + strings.Repeat(")", n)
			reads(t, text+";", prog(append(row(do), c.e...)))
			reads(t, "let a = "+text+";", prog(append(row(let("a")), c.e...)))
			reads(t, "["+text+"];", prog(append(row(do, list(1)), c.e...)))
			reads(t, "f(3, "+text+");", prog(append(row(do, call("f", 2), num(3)), c.e...)))
			if n > 0 {
				reads(t, "3+"+text+";", prog(append(row(do, sum, num(3)), c.e...)))
				reads(t, "3*"+text+";", prog(append(row(do, mul, num(3)), c.e...)))
				reads(t, text+"*3;", prog(append(append(row(do, mul), c.e...), num(3))))
				reads(t, text+"+3;", prog(append(append(row(do, sum), c.e...), num(3))))
			}
			// One too many, one too few.
			stops(t, text+"^);")
			stops(t, "let a = "+text+"^)")
			stops(t, "("+text+"^;")
			stops(t, "let a = ("+text+"^")
			stops(t, "["+text+"^)];")
			stops(t, "[("+text+"^];")
		}
	}
	a, b, c := name("a"), name("b"), name("c")
	for _, q := range []struct {
		e    []api.Tree
		text string
	}{
		{row(sum, sum, a, b, c), "(a + b) + c"},
		{row(sum, sum, a, b, c), "((a + b)) + c"},
		{row(sum, sum, a, b, c), "((a) + (b)) + (c)"},
		{row(sum, sum, a, b, c), "((((a + b)) + c))"},
		{row(sum, a, sum, b, c), "a + ((b + c))"},
		{row(sum, a, sum, b, c), "(a + (b + c))"},
		{row(sum, mul, a, b, c), "(a * b) + c"},
		{row(sum, a, mul, b, c), "a + (b * c)"},
		{row(sum, a, mul, b, c), "a + (((b * c)))"},
		{row(mul, sum, a, b, c), "((a + b)) * c"},
		{row(mul, a, sum, b, c), "a * ((b + c))"},
		{row(mul, mul, a, b, c), "(a * b) * c"},
		{row(mul, a, mul, b, c), "(a * ((b * c)))"},
		{row(call("f", 2), sum, a, b, c), "f((a + b), (c))"},
		{row(list(1), list(1), a), "([([(a)])])"},
		{row(call("f", 1), call("g", 1), a), "(f((g((a)))))"},
	} {
		reads(t, q.text+";", prog(append(row(do), q.e...)))
		reads(t, "let x = "+q.text+";", prog(append(row(let("x")), q.e...)))
	}
	// Brackets are about expressions, and about nothing else.
	for _, text := range []string{
		"(^);", "((^));", "f((^));", "[(^)];", "a + (^);",
		"(f)^(1);", "((f))^(1);", "(1)^(2);", "1^(2);", "f(1)^(2);", "[1]^(2);", "(a)^b;", "(a)^[1];",
		"f((1^, 2));", "[(1^, 2)];", "(1^, 2);", "(a^;);", "(a^;)", "(^let a = 1;);", "let ^(a) = 1;", "let a ^(= 1);", "let a = 1;^)",
		"(a ^# b\n);", "^);", "a^);", "f(1)^);", "f(1^];", "[1^);", "(1^];", "a + (b^", "a * (b + c^;",
	} {
		stops(t, text)
	}
	deep := strings.Repeat("(", 149) + "a" + strings.Repeat(")", 149)
	reads(t, deep+";", prog(row(do, a)))
	stops(t, deep+"^")
	stops(t, strings.Repeat("(", 300)+"^")
	stops(t, strings.Repeat("[", 300)+"^")
	stops(t, strings.Repeat("f(", 150)+"^")
}

// TestInARow: times bind more than sums, what binds alike goes from the left.
func TestInARow(t *testing.T) {
	a, b, c, d, e := name("a"), name("b"), name("c"), name("d"), name("e")
	for _, q := range []struct {
		text string
		e    []api.Tree
	}{
		{"a+b+c+d+e", row(sum, sum, sum, sum, a, b, c, d, e)},
		{"a*b*c*d*e", row(mul, mul, mul, mul, a, b, c, d, e)},
		{"a*b+c", row(sum, mul, a, b, c)},
		{"a+b*c", row(sum, a, mul, b, c)},
		{"a+b+c*d", row(sum, sum, a, b, mul, c, d)},
		{"a+b*c+d", row(sum, sum, a, mul, b, c, d)},
		{"a*b+c+d", row(sum, sum, mul, a, b, c, d)},
		{"a+b*c*d", row(sum, a, mul, mul, b, c, d)},
		{"a*b+c*d", row(sum, mul, a, b, mul, c, d)},
		{"a*b*c+d", row(sum, mul, mul, a, b, c, d)},
		{"a*b+c*d+e", row(sum, sum, mul, a, b, mul, c, d, e)},
		{"a+b*c+d*e", row(sum, sum, a, mul, b, c, mul, d, e)},
		{"a*(b+c)*d", row(mul, mul, a, sum, b, c, d)},
		{"a+(b+c)+d", row(sum, sum, a, sum, b, c, d)},
		{"a+(b+c)*d+e", row(sum, sum, a, mul, sum, b, c, d, e)},
		{"[a+b*c,d*e]", row(list(2), sum, a, mul, b, c, mul, d, e)},
		{"f(a)*g(b)+c", row(sum, mul, call("f", 1), a, call("g", 1), b, c)},
	} {
		reads(t, q.text+";", prog(append(row(do), q.e...)))
		reads(t, "let a="+q.text+";", prog(append(row(let("a")), q.e...)))
	}
}

// TestStandings: the same words, however they stand.
func TestStandings(t *testing.T) {
	p := prog(row(let("ab"), call("f", 3), num(1), list(2), name("x"), sum, num(2), mul, name("y"), num(34), call("g", 0)), row(do, list(0)), row(let("x"), mul, sum, name("a"), name("b"), num(0)))
	words := strings.Fields("let ab = f ( 1 , [ x , 2 + y * 34 ] , g ( ) ) ; [ ] ; let x = ( a + b ) * 0 ;")
	for _, between := range []string{" ", "\n", "  ", "\n\n", " \n", "\n ", " \n \n   ", strings.Repeat("\n", 500)} {
		for _, ahead := range []string{"", between} {
			for _, behind := range []string{"", between} {
				reads(t, ahead+strings.Join(words, between)+behind, p)
			}
		}
	}
	reads(t, "let ab=f(1,[x,2+y*34],g());[];let x=(a+b)*0;", p)
	reads(t, "let ab = f(1, [x, 2 + y * 34], g()); []; let x = (a + b) * 0;", p)
	// Words that need nothing between them.
	reads(t, "let a=1;2;b;let c=d;", prog(row(let("a"), num(1)), row(do, num(2)), row(do, name("b")), row(let("c"), name("d"))))
	stops(t, "a^1;")
	stops(t, "1^a;")
	stops(t, "let a^1=2;")
	stops(t, "leta^=1;")
	stops(t, "let^1=1;")
	// Notes with all that in one line, or each word in a line of its own.
	q := prog(row(note("a b")), row(do, num(1)), row(note("c")))
	for _, text := range []string{"#a b\n1;#c", "# a b\n1; # c\n", "\n\n#  a  b  \n\n1\n;\n\n  # c  \n\n", "# a\n# b\n1;# c\n#", "#\n#a\n\n#\n  #b\n#\n1;\n#\n#c\n#\n"} {
		reads(t, text, q)
	}
}

func TestParseNotes(t *testing.T) {
	for text, want := range map[string]string{
		"#": "", "# ": "", "#     ": "", "#\n": "", "#  \n": "", "#\n#": "", "#\n#\n#\n": "", "# \n #\n\n  #  ": "",
		"#a": "a", "# a": "a", "#  a": "a", "#   a  ": "a", "#a b": "a b", "#a  b": "a b", "# a   b    c ": "a b c",
		"# a\n# b": "a b", "# a\n#b\n": "a b", "#a\n\n\n#b\n#c": "a b c", "# a b\n# c d": "a b c d",
		"#\n# a": "a", "# a\n#": "a", "# a\n#\n# b": "a b", "#\n# a\n#\n#\n# b\n#\n": "a b", "#  \n#  a  \n#  \n#  b  c  ": "a b c",
		"##": "#", "# #": "#", "###": "##", "# a # b": "a # b", "# a\n## b": "a # b", "#let": "let", "# let a = 1;": "let a = 1;", "# a;\n# b;": "a; b;",
		"# 01 A! ~": "01 A! ~", "# abcdefghijklmnopqrst": "abcdefghijklmnopqrst",
	} {
		n := row(note(want))
		reads(t, text, prog(n))
		reads(t, "\n "+text, prog(n))
		reads(t, "1;"+text, prog(row(do, num(1)), n))
		reads(t, "1; "+text+"\n", prog(row(do, num(1)), n))
		reads(t, text+"\n2;", prog(n, row(do, num(2))))
		reads(t, text+"\n2;"+text, prog(n, row(do, num(2)), n))
		reads(t, text+"\n"+text, prog(row(note(strings.TrimSpace(want+" "+want)))))
		// They are one, whatever stands between them; a statement makes them two.
		reads(t, text+"\n \n\n  "+text+"\n2; 3;"+text, prog(row(note(strings.TrimSpace(want+" "+want))), row(do, num(2)), row(do, num(3)), n))
	}
	// As many as there is room for.
	reads(t, strings.Repeat("#\n", api.MaxText/2), prog(row(note(""))))
	reads(t, strings.Repeat("# \n", 1000)+strings.Repeat("# a\n#\n", 60), prog(row(note(strings.Repeat("a ", 59)+"a"))))
	reads(t, "#"+strings.Repeat(" ", api.MaxText-2)+"a", prog(row(note("a"))))
	// Notes that are one are one of MaxLines statements.
	many := strings.Repeat("# a\n# b\n#\n1;\n", 10)
	reads(t, many, slices.Repeat(prog(row(note("a b")), row(do, num(1))), 10))
	refuse(t, many+"#", 0, api.ErrFull)
	// A note is a statement: it stands nowhere within one.
	whole := strings.Fields("let a = ( f ( 1 , [ b , c * 2 ] ) + d ) ;")
	for i := 1; i < len(whole); i++ {
		ahead, behind := strings.Join(whole[:i], " "), strings.Join(whole[i:], " ")
		stops(t, ahead+" ^# b\n"+behind)
		stops(t, ahead+"\n^#\n"+behind)
		stops(t, "# a\n"+ahead+"^#")
	}
	stops(t, "a^#;\n;")
}

// TestLetIsNoName: in each place where a name may stand.
func TestLetIsNoName(t *testing.T) {
	for _, text := range []string{
		"let ^let = 1;", "let ^let let = 1;", "let^", "let ^;", "let ^= 1;", "let ^1 = 1;", "let ^(1);", "let ^();", "let ^+ 1;",
		"a + ^let;", "a * ^let;", "(^let);", "[^let];", "[1, ^let];", "f(^let);", "f(1, ^let);", "let a = ^let;", "let a = ^let b = 1;",
		"f(^let(1));", "[^let()];", "1 + ^let(1);", "a ^let b = 1;", "let a = 1 ^let b = 2;", "let a ^let = 1;", "1; let ^let = 1;", "(^let a = 1);",
	} {
		stops(t, text)
	}
	reads(t, "let lets = le + tel + letlet(alet);", prog(row(let("lets"), sum, sum, name("le"), name("tel"), call("letlet", 1), name("alet"))))
}

// TestCannotStand: one word that cannot at each place of a statement.
func TestCannotStand(t *testing.T) {
	begin := ") ] , + * = ;"
	operand := ") ] , + * = ; let #"
	for place, words := range map[string]string{
		"":                 begin,
		"a; ":              begin,
		"# a\n":            begin,
		"let ":             "( ) [ ] , + * = ; let 1 #",
		"let a ":           "( ) [ ] , + * ; let b 1 #",
		"let a = ":         operand,
		"let a = b ":       ") [ ] , = let c 1 #",
		"let a = 1 ":       "( ) [ ] , = let c 1 #",
		"a ":               ") [ ] , = let c 1 #",
		"1 ":               "( ) [ ] , = let c 2 #",
		"a() ":             "( ) [ ] , = let c 2 #",
		"[] ":              "( ) [ ] , = let c 2 #",
		"(a) ":             "( ) [ ] , = let c 2 #",
		"a + ":             operand,
		"a * ":             operand,
		"a + b ":           ") [ ] , = let c 1 #",
		"a * 1 ":           "( ) [ ] , = let c 1 #",
		"( ":               operand,
		"(a ":              "[ ] , = ; let c 1 #",
		"(a + ":            operand,
		"(1 + 2 ":          "( [ ] , = ; let c 1 #",
		"((a) ":            "( [ ] , = ; let c 1 #",
		"f( ":              "] , + * = ; let #",
		"f(a ":             "[ ] = ; let c 1 #",
		"f(1 ":             "( [ ] = ; let c 1 #",
		"f(1, ":            operand,
		"f(1, (2) ":        "( [ ] = ; let c 1 #",
		"f(g() ":           "( [ ] = ; let c 1 #",
		"[ ":               ") , + * = ; let #",
		"[a ":              ") [ = ; let c 1 #",
		"[1 ":              "( ) [ = ; let c 1 #",
		"[1, ":             operand,
		"[1, 2 ":           "( ) [ = ; let c 1 #",
		"[f(1) ":           "( ) [ = ; let c 1 #",
		"[f(1, [2] ":       "( [ ] = ; let c 1 #",
		"f([ ":             ") , + * = ; let #",
		"f((a + [1]) * 2 ": "( [ ] = ; let c 1 #",
	} {
		for word := range strings.FieldsSeq(words) {
			for _, behind := range []string{"", "\n", " ;", " a;", ") ];", " 1;\n# b\n= = ="} {
				stops(t, place+"^"+word+behind)
				stops(t, "x; # y\n\n"+place+" \n ^"+word+behind)
			}
		}
		// All others can: what is wrong then stands further on.
		for word := range strings.FieldsSeq("( ) [ ] , + * = ; let b 1 #") {
			is := slices.Contains(strings.Fields(words), word) || word == "b" && slices.Contains(strings.Fields(words), "c") || word == "1" && slices.Contains(strings.Fields(words), "2")
			_, got, err := Parse(place + word + " ")
			if (err != nil && got == len(place)) != is {
				t.Errorf("%q behind %q: %d, %v", word, place, got, err)
			}
		}
	}
}

// TestTooEarly: texts that end at each place within a statement.
func TestTooEarly(t *testing.T) {
	for _, whole := range []string{
		"a ;", "1 ;", "let a = 1 ;", "let a = b + c * 2 ;", "f ( ) ;", "f ( 1 ) ;", "f ( 1 , a , g ( ) ) ;",
		"[ ] ;", "[ 1 , [ ] , ( a ) ] ;", "( a ) ;", "( ( a + 1 ) * ( 2 ) ) ;", "let x = f ( [ ( 1 + a ) * 2 , b ] ) ;",
	} {
		words := strings.Fields(whole)
		for i := 1; i < len(words); i++ {
			for _, between := range []string{" ", "\n"} {
				text := strings.Join(words[:i], between)
				for _, ahead := range []string{"", "a;", "# a\n", "\n\n \n", "1;\n# b\n2;"} {
					for _, behind := range []string{"", " ", "\n", "   \n \n\n"} {
						stops(t, ahead+text+behind+"^")
					}
				}
			}
		}
		for i := range words {
			// Behind a statement that is whole.
			if i > 0 {
				stops(t, whole+strings.Join(words[:i], " ")+"^")
				stops(t, whole+"#\n"+strings.Join(words[:i], " ")+"\n^")
			}
		}
	}
	stops(t, "a"+strings.Repeat(" ", api.MaxText-1)+"^")
	stops(t, strings.Repeat("\n", api.MaxText-1)+"a^")
}

func TestNothing(t *testing.T) {
	both(t, nil, "")
	both(t, prog(), "")
	for n := range 20 {
		for _, unit := range []string{" ", "\n", " \n", "\n "} {
			reads(t, strings.Repeat(unit, n), nil)
		}
	}
	reads(t, strings.Repeat(" ", api.MaxText), nil)
	reads(t, strings.Repeat("\n", api.MaxText), nil)
	stops(t, "^;")
	stops(t, " \n ^;")
	stops(t, "a;^;")
}

// TestNoWords: chapter 7's errors and places.
func TestNoWords(t *testing.T) {
	for _, text := range []string{
		"^A", "a + ^B;", "let ^A = 1;", "^abcdefghi;", "let ^abcdefghi = 1;", "let a = ^abcdefghi;", "^abcdefghi();", "f(^abcdefghi);",
		"^1234567;", "let a = ^1234567;", "[1, ^1234567];", "^00;", "a + ^01;", "a^-1;", "a ^\t;", "^é", "^\xff", "a;^\x00", "a; ^# \x7f", "# a\n^#\xff", "a ^!= b;", "a^\r\n;", "a ^/ b;", "^_a;", "a^_b;", "^\"a\";",
		"let a = 1; ^!", "a;\n# b\n^!",
	} {
		stops(t, text)
	}
	for n := 1; n <= 12; n++ {
		letters, digits := strings.Repeat("a", n), strings.Repeat("1", n)
		if n <= 8 {
			reads(t, letters+";", prog(row(do, name(letters))))
		} else {
			stops(t, "1; ^"+letters+";")
		}
		if n > 6 {
			stops(t, "1; ^"+digits+";")
		}
	}
	reads(t, "999999;", prog(row(do, num(999999))))
	stops(t, "^1000000;")
	long := strings.Repeat(" ", api.MaxText)
	for _, text := range []string{long + " ", "a;" + long, "!" + long, "a" + long, long + ";", strings.Repeat("#", api.MaxText+1)} {
		refuse(t, text, 0, api.ErrFull)
	}
	reads(t, "a;"+long[2:], prog(row(do, name("a"))))
	// More than MaxTokens words, whether they stand right or not.
	refuse(t, strings.Repeat("(", 301), 0, api.ErrFull)
	refuse(t, strings.Repeat("a;", 150)+";", 0, api.ErrFull)
	refuse(t, strings.Repeat("a;", 151), 0, api.ErrFull)
	refuse(t, strings.Repeat("(", 150)+"a"+strings.Repeat(")", 150)+";", 0, api.ErrFull)
	stops(t, strings.Repeat("a;", 149)+"a ^a")
}

// TestRefusedByTree: what chapter 8 refuses though its words stand right.
func TestRefusedByTree(t *testing.T) {
	for n := range 30 {
		kids := strings.Join(slices.Repeat([]string{"1"}, n), ", ")
		for _, text := range []string{"[" + kids + "];", "f(" + kids + ");", "let a = 2 * [" + kids + "];", "[f(" + kids + ")];", "f((" + "[" + kids + "]));"} {
			if _, place, err := Parse(text); place != 0 || (n > api.MaxKids) != (plain.Told(err) == api.ErrRange) || (n > api.MaxKids) != (err != nil) {
				t.Errorf("%q: %d, %v", text, place, err)
			}
		}
	}
	for n := 1; n <= 60; n++ {
		for _, mark := range []string{"+", "*"} {
			text := "a" + strings.Repeat(mark+"a", n) + ";"
			if _, place, err := Parse(text); place != 0 || (2*n+2 > api.MaxTree) != (plain.Told(err) == api.ErrFull) || (2*n+2 > api.MaxTree) != (err != nil) {
				t.Errorf("%q: %d, %v", text, place, err)
			}
		}
		text := strings.Repeat("[", n) + strings.Repeat("]", n) + ";"
		if _, place, err := Parse(text); place != 0 || (n+1 > api.MaxTree) != (plain.Told(err) == api.ErrFull) || (n+1 > api.MaxTree) != (err != nil) {
			t.Errorf("%q: %d, %v", text, place, err)
		}
		text = strings.Repeat("a;", n)
		if _, place, err := Parse(text); place != 0 || (n > api.MaxLines) != (plain.Told(err) == api.ErrFull) || (n > api.MaxLines) != (err != nil) {
			t.Errorf("%q: %d, %v", text, place, err)
		}
	}
	word := strings.Repeat("a", 21)
	for n := 1; n <= 130; n++ {
		for _, text := range []string{"#" + strings.Repeat(" b", n), strings.Repeat("#b\n", n), "1;" + strings.Repeat("#  b \n#\n", n) + "2;"} {
			if _, place, err := Parse(text); place != 0 || (n > api.MaxWords) != (plain.Told(err) == api.ErrFull) || (n > api.MaxWords) != (err != nil) {
				t.Errorf("%q: %d, %v", text, place, err)
			}
		}
		for _, text := range []string{"#" + strings.Repeat(" b", n-1) + " " + word, "#" + word + "\n" + strings.Repeat("#b\n", n-1), "a; #" + word + strings.Repeat(" b", n-1)} {
			want := api.ErrSyntax
			if n > api.MaxWords {
				want = api.ErrFull
			}
			refuse(t, text, 0, want)
		}
	}
	refuse(t, "#"+word, 0, api.ErrSyntax)
	refuse(t, "a; b; # c "+word+"\nd;", 0, api.ErrSyntax)
	refuse(t, "#"+strings.Repeat("a", api.MaxText-1), 0, api.ErrSyntax)
	refuse(t, "#"+strings.Repeat("a ", (api.MaxText-1)/2), 0, api.ErrFull)
	reads(t, "#"+word[1:]+" "+word[1:], prog(row(note(word[1:]+" "+word[1:]))))
	// Two words that stand in two notes are not one.
	reads(t, "#"+word[1:]+"\n#"+word[1:], prog(row(note(word[1:]+" "+word[1:]))))
}

// TestOrder: chapter 7's errors, then a word that cannot stand, then chapter 8's errors, wherever they are.
func TestOrder(t *testing.T) {
	kids, nodes, statements := "[1,2,3,4,5,6,7];", strings.Repeat("[", 40)+strings.Repeat("]", 40)+";", strings.Repeat("a;", 21)
	long, many := "#"+strings.Repeat("a", 21)+"\n", "#"+strings.Repeat(" a", 61)+"\n"
	third := []struct {
		text string
		want api.Errno
	}{{kids, api.ErrRange}, {nodes, api.ErrFull}, {statements, api.ErrFull}, {long, api.ErrSyntax}, {many, api.ErrFull}}
	for _, c := range third {
		refuse(t, c.text, 0, c.want)
		refuse(t, "b;"+c.text+"b;", 0, c.want)
		for _, second := range []string{"a b;", "a = 1;", "let 1;", ");"} {
			_, at, _ := Parse(second)
			refuse(t, c.text+second, len(c.text)+at, api.ErrSyntax)
			refuse(t, second+c.text, at, api.ErrSyntax)
			refuse(t, "b;"+second+second+c.text, 2+at, api.ErrSyntax)
			for _, first := range []string{"!", "A", "01", "1234567 ", "abcdefghi ", "\x00"} {
				refuse(t, c.text+second+first, len(c.text+second), api.ErrSyntax)
				refuse(t, second+c.text+first, len(c.text+second), api.ErrSyntax)
				refuse(t, c.text+first+second, len(c.text), api.ErrSyntax)
				refuse(t, first+second+c.text, 0, api.ErrSyntax)
			}
			refuse(t, c.text+second+strings.Repeat(";", 300), 0, api.ErrFull)
			refuse(t, c.text+second+strings.Repeat(" ", api.MaxText), 0, api.ErrFull)
		}
		stops(t, c.text+"a^")
		stops(t, c.text+"a \n^")
		// Of chapter 8's errors that of the first statement is told, but too many statements ahead of all.
		for _, d := range third {
			if strings.HasPrefix(c.text, "#") && strings.HasPrefix(d.text, "#") {
				continue
			}
			want := c.want
			if c.text == statements || d.text == statements {
				want = api.ErrFull
			}
			refuse(t, c.text+d.text, 0, want)
			refuse(t, "a;"+c.text+"b;"+d.text, 0, want)
		}
	}
	// Within a statement too many nodes come ahead of too many kids.
	refuse(t, "["+strings.Repeat("1,", 39)+"1];", 0, api.ErrFull)
	refuse(t, "["+strings.Repeat("1,", 37)+"1];", 0, api.ErrRange)
	// The first of several words that cannot stand.
	stops(t, "a ^= = 1; let let;")
	stops(t, "let ^let = ) ( ;")
	// A bracket that is not closed is seen where another word stands instead.
	stops(t, "(a^; b);")
	stops(t, "f(1^; 2);")
	stops(t, "[a, b^; c d ;")
}

// yard reads words by two stacks, of parts and of marks: another road to the same.
type yard struct {
	parts [][]api.Tree
	marks []mark
}

// mark is `+`, `*`, or what is open: `(`, `[`, or `f` of a call.
type mark struct {
	kind string
	node api.Tree
}

func (y *yard) put(nodes ...api.Tree) { y.parts = append(y.parts, nodes) }

// fold puts so many parts, the last ones, behind a node as its kids.
func (y *yard) fold(node api.Tree, n int) {
	at := len(y.parts) - n
	whole := row(node)
	for _, part := range y.parts[at:] {
		whole = append(whole, part...)
	}
	y.parts = append(y.parts[:at], whole)
}

// settle folds what binds at least as much as one of the kinds, and gives what is open then.
func (y *yard) settle(kinds string) string {
	for len(y.marks) > 0 {
		last := y.marks[len(y.marks)-1]
		if !strings.Contains(kinds, last.kind) {
			return last.kind
		}
		y.fold(last.node, 2)
		y.marks = y.marks[:len(y.marks)-1]
	}
	return ""
}

func (y *yard) push(kind string, node api.Tree) { y.marks = append(y.marks, mark{kind, node}) }

func (y *yard) pop() mark {
	last := y.marks[len(y.marks)-1]
	y.marks = y.marks[:len(y.marks)-1]
	return last
}

// What may stand next, as far as the stacks do not tell.
const (
	atBegin = iota
	atLetName
	atEqual
	atOperand
	atKid    // of a call or a list that has none yet
	atName   // behind a name: perhaps it is a call's
	atBehind // behind an expression
)

// walk gives the statements of words, and how many of them can stand; one more than there are if all can, and they are whole.
func walk(words []string) (p [][]api.Tree, n int) {
	var y yard
	state := atBegin
	for i, word := range words {
		next := -1
		isName := word[0] >= 'a' && word[0] <= 'z' && word != "let"
		isNum := word[0] >= '0' && word[0] <= '9'
		open := y.open()
		switch state {
		case atBegin:
			if word[0] == '#' {
				p = noted(p, word[1:])
				next = atBegin
				break
			}
			y = yard{}
			if word == "let" {
				next = atLetName
				break
			}
			y.put(do)
			next = y.operand(word, isName, isNum)
		case atLetName:
			if isName {
				y.put(let(word))
				next = atEqual
			}
		case atEqual:
			if word == "=" {
				next = atOperand
			}
		case atOperand, atKid:
			next = y.operand(word, isName, isNum)
			if state == atKid && (open == "f" && word == ")" || open == "[" && word == "]") {
				y.put(y.pop().node)
				next = atBehind
			}
		case atName, atBehind:
			next = y.behind(word, state)
			if word == ";" && open == "" {
				y.settle("+*")
				p = append(p, slices.Concat(y.parts...))
				next = atBegin
			}
		}
		if next < 0 {
			return nil, i
		}
		state = next
	}
	if state != atBegin {
		return nil, len(words)
	}
	return p, len(words) + 1
}

// noted puts a note to a program, or its words to the note that is the last statement.
func noted(p [][]api.Tree, text string) [][]api.Tree {
	if len(p) == 0 || p[len(p)-1][0].Op != api.Note {
		p = append(p, row(note("")))
	}
	last := &p[len(p)-1][0]
	for piece := range strings.SplitSeq(text, " ") {
		if piece != "" && last.Text != "" {
			last.Text += " "
		}
		last.Text += piece
	}
	return p
}

// open gives what is open, whatever of sums and times stands in it.
func (y *yard) open() string {
	for _, m := range slices.Backward(y.marks) {
		if !strings.Contains("+*", m.kind) {
			return m.kind
		}
	}
	return ""
}

// operand reads a word at which an expression begins.
func (y *yard) operand(word string, isName, isNum bool) int {
	switch {
	case isName:
		y.put(name(word))
		return atName
	case isNum:
		n := 0
		fmt.Sscan(word, &n)
		y.put(num(n))
		return atBehind
	case word == "(":
		y.push("(", api.Tree{})
		return atOperand
	case word == "[":
		y.push("[", list(0))
		return atKid
	}
	return -1
}

// behind reads a word behind an expression, but `;`.
func (y *yard) behind(word string, state int) int {
	open := y.open()
	switch {
	case word == "(" && state == atName:
		text := y.parts[len(y.parts)-1][0].Text
		y.parts = y.parts[:len(y.parts)-1]
		y.push("f", call(text, 0))
		return atKid
	case word == "+":
		y.settle("+*")
		y.push("+", sum)
		return atOperand
	case word == "*":
		y.settle("*")
		y.push("*", mul)
		return atOperand
	case word == "," && (open == "f" || open == "["):
		y.settle("+*")
		y.marks[len(y.marks)-1].node.N++
		return atOperand
	case word == ")" && open == "(":
		y.settle("+*")
		y.pop()
		return atBehind
	case word == ")" && open == "f", word == "]" && open == "[":
		y.settle("+*")
		last := y.pop()
		last.node.N++
		y.fold(last.node, last.node.N)
		return atBehind
	}
	return -1
}

// held holds Parse against walk, and gives what is told.
func held(t *testing.T, text string) api.Errno {
	t.Helper()
	words, at, place, err := lex.Words(text)
	if err != nil {
		refuse(t, text, place, plain.Told(err))
		return plain.Told(err)
	}
	p, n := walk(words)
	switch {
	case n < len(words):
		refuse(t, text, at[n], api.ErrSyntax)
		return api.ErrSyntax
	case n == len(words):
		refuse(t, text, len(text), api.ErrSyntax)
		return api.ErrSyntax
	}
	if _, err := tree.All(p); err != nil {
		refuse(t, text, 0, plain.Told(err))
		return plain.Told(err)
	}
	reads(t, text, p)
	printed, err := Print(p)
	if err != nil {
		t.Errorf("%q: %v", text, err)
	}
	reads(t, printed, p)
	return api.OK
}

var alphabet = []string{"a", "12", "let", "(", ")", "[", "]", ",", "+", "*", "=", ";", "# b\n"}

// TestOfAll: all short rows of words, and the longer ones of which all words but the last can stand.
func TestOfAll(t *testing.T) {
	texts := []string{""}
	for n := range 8 {
		var more []string
		for _, text := range texts {
			for _, word := range alphabet {
				longer := text + word + " "
				held(t, longer)
				words, _, _, err := lex.Words(longer)
				if err != nil {
					t.Fatal(err)
				}
				if _, can := walk(words); n < 3 || n < 7 && can >= len(words) {
					more = append(more, longer)
				}
			}
		}
		texts = more
	}
}

// exp is an expression with its kids, as it grows.
type exp struct {
	node api.Tree
	kids []exp
}

func grow(r *rand.Rand, deepest int) exp {
	op := 1 + r.Intn(6)
	if deepest <= 0 {
		op = 1 + r.Intn(2)
	}
	e := exp{node: api.Tree{Op: op}}
	n := 0
	switch op {
	case api.Num:
		e.node.N = []int{0, 9, 10, 999999, r.Intn(1000000)}[r.Intn(5)]
	case api.Name, api.Call:
		e.node.Text = []string{"a", "bc", "lets", "abcdefgh"}[r.Intn(4)]
	case api.Sum, api.Mul:
		n = 2
	}
	if op == api.Call || op == api.List {
		n = r.Intn(2 + r.Intn(7))
		e.node.N = n
	}
	for range n {
		e.kids = append(e.kids, grow(r, deepest-1))
	}
	return e
}

func (e exp) nodes() []api.Tree {
	t := row(e.node)
	for _, kid := range e.kids {
		t = append(t, kid.nodes()...)
	}
	return t
}

// needed are the kids that have brackets: of which Op, the first or the second one, and what it is.
var needed = [][3]int{{api.Mul, 0, api.Sum}, {api.Mul, 1, api.Sum}, {api.Sum, 1, api.Sum}, {api.Mul, 1, api.Mul}}

// show writes an expression; r puts brackets about it that nobody needs, if there is one.
func (e exp) show(r *rand.Rand) string {
	var kids []string
	for i, kid := range e.kids {
		text := kid.show(r)
		if slices.Contains(needed, [3]int{e.node.Op, i, kid.node.Op}) {
			text = "(" + text + ")"
		}
		kids = append(kids, text)
	}
	text := e.node.Text
	switch e.node.Op {
	case api.Num:
		text = fmt.Sprint(e.node.N)
	case api.Call:
		text += "(" + strings.Join(kids, ", ") + ")"
	case api.List:
		text = "[" + strings.Join(kids, ", ") + "]"
	case api.Sum:
		text = strings.Join(kids, " + ")
	case api.Mul:
		text = strings.Join(kids, " * ")
	}
	for r != nil && r.Intn(6) == 0 {
		text = "(" + text + ")"
	}
	return text
}

// some is a program that has grown: its statements, its text, and its text with brackets that nobody needs.
func some(r *rand.Rand) (p [][]api.Tree, text, other string) {
	for range r.Intn(7) {
		if k := r.Intn(4); k == 0 && (len(p) == 0 || p[len(p)-1][0].Op != api.Note) {
			words := []string{"so it is", "", "a", "b #c ;"}[r.Intn(4)]
			p = append(p, row(note(words)))
			line := strings.TrimRight("# "+words, " ") + "\n"
			text += line
			other += strings.ReplaceAll(line, " ", []string{" ", "  ", "\n#\n# "}[r.Intn(3)])
			continue
		}
		e := grow(r, r.Intn(7))
		first, ahead := do, ""
		if r.Intn(2) == 0 {
			first, ahead = let("x"), "let x = "
		}
		p = append(p, append(row(first), e.nodes()...))
		text += ahead + e.show(nil) + ";\n"
		other += ahead + e.show(r) + []string{";", " ;\n", "\n\n;"}[r.Intn(3)]
	}
	return p, text, other
}

// TestOfSome: programs that have grown, and such with words put to them, taken from them and put into another's place.
func TestOfSome(t *testing.T) {
	r := rand.New(rand.NewSource(9))
	seen := map[api.Errno]int{}
	for range 6000 {
		p, text, other := some(r)
		if _, err := tree.All(p); err != nil {
			tells(t, p, plain.Told(err))
		} else if got, err := Print(p); got != text || err != nil {
			t.Fatalf("%v: %q, %v, want %q", p, got, err, text)
		}
		for _, read := range []string{text, other} {
			seen[held(t, read)]++
			if got, _, err := Parse(read); err == nil && !same(got, p) {
				t.Fatalf("%q: %v, want %v", read, got, p)
			}
		}
		words, _, _, _ := lex.Words(other)
		for i := range words {
			if strings.HasPrefix(words[i], "#") {
				words[i] += "\n"
			}
		}
		for range 8 {
			changed := slices.Clone(words)
			i := r.Intn(len(words) + 1)
			word := alphabet[r.Intn(len(alphabet))]
			switch {
			case r.Intn(3) == 0:
				changed = slices.Insert(changed, i, word)
			case i == len(words):
				continue
			case r.Intn(2) == 0:
				changed = slices.Delete(changed, i, i+1)
			default:
				changed[i] = word
			}
			seen[held(t, strings.Join(changed, " "))]++
		}
	}
	if seen[api.OK] < 10000 || seen[api.ErrSyntax] < 10000 || seen[api.ErrFull] < 300 || seen[api.ErrRange] < 300 {
		t.Errorf("not enough of each: %v", seen)
	}
	for range 5000 {
		words := make([]string, r.Intn(320))
		for i := range words {
			words[i] = alphabet[r.Intn(len(alphabet))]
		}
		held(t, strings.Join(words, []string{" ", "\n"}[r.Intn(2)]))
	}
	for range 5000 {
		b := make([]byte, r.Intn(30))
		for i := range b {
			b[i] = byte(r.Intn(256))
		}
		held(t, string(b))
	}
}

// TestBehindTheLength: what lies behind a list's length is neither read nor written.
func TestBehindTheLength(t *testing.T) {
	whole := row(do, sum, num(1), name("a"), api.Tree{Op: 77}, note("a"))
	p := prog(whole[:4], row(note("a"), num(1))[:1], row(note("b")), nil)
	kept, keptWhole := copied(p), slices.Clone(whole)
	both(t, p[:2], "1 + a;\n# a\n")
	both(t, p[:1], "1 + a;\n")
	both(t, p[:0], "")
	both(t, p[2:3], "# b\n")
	tells(t, p[:3], api.ErrShape)
	tells(t, prog(whole[:3]), api.ErrShape)
	if !same(p, kept) || !slices.Equal(whole, keptWhole) {
		t.Errorf("%v was %v, %v was %v", p, kept, whole, keptWhole)
	}
}

// TestFreshMemory: what comes out is the caller's, whatever becomes of another answer or of another statement.
func TestFreshMemory(t *testing.T) {
	for _, text := range []string{"a;", "# a\n", "# a b\n#c\n", "let a = f(b, [1, 2]); # c\nd * (e + 3); g(); # h\n", strings.Repeat("abc + d * [e];\n", 20)} {
		first, _, err := Parse(text)
		if err != nil {
			t.Fatal(err)
		}
		kept := copied(first)
		second, _, _ := Parse(text)
		start := uintptr(unsafe.Pointer(unsafe.StringData(text)))
		for i := range first {
			if &first[i] == &second[i] || &first[i][0] == &second[i][0] {
				t.Errorf("%.60q: two answers share memory", text)
			}
			for k := range first[i] {
				a, b := first[i][k].Text, second[i][k].Text
				if a == "" {
					continue
				}
				if unsafe.StringData(a) == unsafe.StringData(b) {
					t.Errorf("%q: shared by two answers", a)
				}
				if at := uintptr(unsafe.Pointer(unsafe.StringData(a))); start <= at && at < start+uintptr(len(text)) {
					t.Errorf("%q is a piece of %.60q", a, text)
				}
			}
		}
		// Each statement is written over, with all the room behind it: the others stay.
		for i, s := range second {
			for k := range s[:cap(s)] {
				s[:cap(s)][k] = api.Tree{Op: -1}
			}
			if !same(second[i+1:], kept[i+1:]) {
				t.Errorf("%.60q: statements share memory", text)
			}
		}
		for i := range second[:cap(second)] {
			second[:cap(second)][i] = nil
		}
		if !same(first, kept) {
			t.Errorf("%.60q: %v was %v", text, first, kept)
		}
		reads(t, text, kept)
		// What is printed stays when the program is written into.
		printed, err := Print(first)
		if err != nil {
			t.Fatal(err)
		}
		for _, s := range first {
			clear(s)
		}
		reads(t, printed, kept)
	}
}

// TestNothingIsKept: what is asked next hangs on nothing that was asked ahead of it.
func TestNothingIsKept(t *testing.T) {
	for _, ahead := range []string{"", "a;", "a", "A", "((((", "# a", "let let", strings.Repeat("a;", 21), strings.Repeat("a ", 301), strings.Repeat(" ", api.MaxText+1)} {
		p, _, _ := Parse(ahead)
		Print(p)
		Print(prog(nil))
		both(t, prog(row(note("b")), row(do, num(1))), "# b\n1;\n")
		Parse(ahead)
		stops(t, "a ^b;")
		Parse(ahead)
		reads(t, "", nil)
		both(t, nil, "")
	}
}

// TestSoon: the longest texts take little time.
func TestSoon(t *testing.T) {
	for _, unit := range []string{"a", "1", ";", " ", "\n", "#", "#\n", "# ", "# a", "#a\n", "#a\n\n", "(", "a;", "a#\n"} {
		text := strings.Repeat(unit, api.MaxText/len(unit))
		for _, ahead := range []string{"", strings.Repeat("(", 150), strings.Repeat("f(", 150), "a" + strings.Repeat("*a", 149) + ";", "a" + strings.Repeat("+a", 148) + ";", strings.Repeat("a;", 150)} {
			start := time.Now()
			Parse(text)
			Parse(ahead + text[:(api.MaxText-len(ahead))/len(unit)*len(unit)])
			if took := time.Since(start); took > 5*time.Second {
				t.Errorf("%.20q, %q: %v", ahead, unit, took)
			}
		}
	}
	start := time.Now()
	tells(t, prog(row(note(strings.Repeat("a ", 1<<24)))), api.ErrFull)
	tells(t, prog(row(do, name(strings.Repeat("a", 1<<24)))), api.ErrSyntax)
	tells(t, make([][]api.Tree, 1<<20), api.ErrFull)
	if took := time.Since(start); took > 5*time.Second {
		t.Errorf("%v", took)
	}
}
