package page

import (
	"fmt"
	"math"
	"math/rand"
	"slices"
	"strings"
	"testing"
	"time"
	"unsafe"

	"pargetry/api"
	"pargetry/fill"
	"pargetry/lex"
	"pargetry/plain"
	"pargetry/syn"
	"pargetry/tree"
)

func num(n int) api.Tree { return api.Tree{Op: api.Num, N: n} }

func name(text string) api.Tree { return api.Tree{Op: api.Name, Text: text} }

func call(text string, n int) api.Tree { return api.Tree{Op: api.Call, Text: text, N: n} }

func list(n int) api.Tree { return api.Tree{Op: api.List, N: n} }

func let(text string) api.Tree { return api.Tree{Op: api.Let, Text: text} }

func noted(text string) api.Tree { return api.Tree{Op: api.Note, Text: text} }

var (
	sum = api.Tree{Op: api.Sum}
	mul = api.Tree{Op: api.Mul}
	do  = api.Tree{Op: api.Do}
)

// row puts nodes into a list.
func row(nodes ...api.Tree) []api.Tree { return nodes }

// prog puts statements into a program.
func prog(statements ...[]api.Tree) [][]api.Tree { return statements }

// chain is a statement of n nodes: lists of one another, and a number at last.
func chain(first api.Tree, n int) []api.Tree {
	return append(append(row(first), slices.Repeat(row(list(1)), n-2)...), num(0))
}

func same(p, q [][]api.Tree) bool { return slices.EqualFunc(p, q, slices.Equal[[]api.Tree]) }

// printed gives the lines that chapter 9 has of a program, one of each statement.
func printed(t *testing.T, p ...[]api.Tree) string {
	t.Helper()
	text, err := syn.Print(p)
	if err != nil {
		t.Fatalf("%v: %v", p, err)
	}
	return text
}

// one gives the lines of a statement that has no error, and asks what is true of all of them.
func one(t *testing.T, s []api.Tree, width int) string {
	t.Helper()
	kept := slices.Clone(s)
	text, err := One(s, width)
	if err != nil {
		t.Fatalf("%v, %d: %v", s, width, err)
	}
	if !slices.Equal(s, kept) {
		t.Fatalf("%v was %v", s, kept)
	}
	tidy(t, text)
	if line := printed(t, s); len(line)-1 <= width && text != line {
		t.Fatalf("%v, %d: %q, though there is room for %q", s, width, text, line)
	}
	reads(t, text, prog(s))
	return text
}

// tidy asks that each line of a text is ended by byte 10, has something in it, and does not end with a blank.
func tidy(t *testing.T, text string) {
	t.Helper()
	if text == "" {
		return
	}
	if !strings.HasSuffix(text, "\n") {
		t.Fatalf("%q has no byte 10 at its end", text)
	}
	for line := range strings.SplitSeq(strings.TrimSuffix(text, "\n"), "\n") {
		if line == "" || strings.HasSuffix(line, " ") {
			t.Fatalf("%q has the line %q", text, line)
		}
	}
}

// reads asks that a text is just this program.
func reads(t *testing.T, text string, p [][]api.Tree) {
	t.Helper()
	got, place, err := syn.Parse(text)
	if !same(got, p) || place != 0 || err != nil {
		t.Fatalf("%.300q is read as %.300s, %d, %v, want %.300s", text, fmt.Sprint(got), place, err, fmt.Sprint(p))
	}
}

// made gives what Format makes of a text that has no error.
func made(t *testing.T, text string, width int) string {
	t.Helper()
	out, place, err := Format(text, width)
	if place != 0 || err != nil {
		t.Fatalf("%.300q, %d: %.300q, %d, %v", text, width, out, place, err)
	}
	tidy(t, out)
	return out
}

// becomes asks that Format makes just this of a text.
func becomes(t *testing.T, text string, width int, want string) {
	t.Helper()
	if got := made(t, text, width); got != want {
		t.Errorf("%.300q, %d:\n got %q\nwant %q", text, width, got, want)
	}
}

// laid asks that the statement of a text has just these lines, from One and from Format.
func laid(t *testing.T, text string, width int, lines ...string) {
	t.Helper()
	p, _, err := syn.Parse(text)
	if err != nil || len(p) != 1 {
		t.Fatalf("%q: %v, %v", text, p, err)
	}
	want := strings.Join(lines, "\n") + "\n"
	if got := one(t, p[0], width); got != want {
		t.Errorf("%q, %d:\n got %q\nwant %q", text, width, got, want)
	}
	becomes(t, text, width, want)
}

// refuse asks that One has this error, and nothing beside it.
func refuse(t *testing.T, s []api.Tree, width int, want api.Errno) {
	t.Helper()
	kept := slices.Clone(s)
	if text, err := One(s, width); text != "" || plain.Told(err) != want {
		t.Errorf("%.300s, %d: %q, %v, want %v", fmt.Sprint(s), width, text, err, want)
	}
	if !slices.Equal(s, kept) {
		t.Errorf("%v was %v", s, kept)
	}
}

// refuseText asks that Format has this place and this error, and nothing beside them.
func refuseText(t *testing.T, text string, width, place int, want api.Errno) {
	t.Helper()
	if out, got, err := Format(text, width); out != "" || got != place || plain.Told(err) != want {
		t.Errorf("%.300q, %d: %q, %d, %v, want %d, %v", text, width, out, got, err, place, want)
	}
}

// wrongWidths are none that may be.
var wrongWidths = []int{9, 8, 2, 1, 0, -1, -2, -10, -100, 101, 102, 1000, math.MaxInt32, math.MinInt32, math.MaxInt - 1, math.MinInt + 1, math.MaxInt, math.MinInt}

func TestExample(t *testing.T) {
	becomes(t, "let a=f(1,2);# b c", 10, "let a =\n  f(1, 2);\n# b c\n")
	becomes(t, "let a=f(1,2);", 40, "let a = f(1, 2);\n")
	if got := one(t, row(noted("")), 10); got != "#\n" {
		t.Errorf("%q", got)
	}
	refuse(t, row(noted("")), 9, api.ErrRange)
	// Those of README.md.
	s := row(let("x"), sum, num(1), call("f", 1), name("a"))
	if got := one(t, s, 20); got != "let x = 1 + f(a);\n" {
		t.Errorf("%q", got)
	}
	if got := one(t, s, 12); got != "let x =\n  1 + f(a);\n" {
		t.Errorf("%q", got)
	}
	refuse(t, s, 9, api.ErrRange)
	refuse(t, s[:4], 12, api.ErrShape)
	becomes(t, "#so\n# it is\nlet x=(1+f((a)));", 12, "# so it is\nlet x =\n  1 + f(a);\n")
	becomes(t, "# so it is\nlet x =\n  1 + f(a);\n", 40, "# so it is\nlet x = 1 + f(a);\n")
	refuseText(t, "let x=1+;", 12, 8, api.ErrSyntax)
	refuseText(t, "let x=1+;", 101, 0, api.ErrRange)
}

// TestKinds: each kind of statement and of expression, where there is just room for it in one line, and where there is not.
func TestKinds(t *testing.T) {
	laid(t, "1;", 10, "1;")
	laid(t, "999999;", 10, "999999;")
	laid(t, "abcdefgh;", 10, "abcdefgh;")
	laid(t, "[];", 10, "[];")
	laid(t, "f();", 10, "f();")
	laid(t, "let a=1;", 10, "let a = 1;")
	laid(t, "let a=12;", 10, "let a =", "  12;")
	laid(t, "let a=12;", 11, "let a = 12;")
	laid(t, "let a=b;", 10, "let a = b;")
	laid(t, "let a=bc;", 10, "let a =", "  bc;")
	laid(t, "let a=bc;", 11, "let a = bc;")
	laid(t, "let a=[];", 10, "let a =", "  [];")
	laid(t, "let a=[];", 11, "let a = [];")
	laid(t, "let a=f();", 11, "let a =", "  f();")
	laid(t, "let a=f();", 12, "let a = f();")
	laid(t, "[1,2,3,4];", 12, "[", "  1,", "  2,", "  3,", "  4", "];")
	laid(t, "[1,2,3,4];", 13, "[1, 2, 3, 4];")
	laid(t, "abcd(e,f);", 10, "abcd(", "  e,", "  f", ");")
	laid(t, "abcd(e,f);", 11, "abcd(e, f);")
	laid(t, "abcd+efgh;", 11, "abcd", "  + efgh;")
	laid(t, "abcd+efgh;", 12, "abcd + efgh;")
	laid(t, "abcd*efgh;", 11, "abcd", "  * efgh;")
	laid(t, "abcd*efgh;", 12, "abcd * efgh;")
	laid(t, "#a", 10, "# a")
}

// TestWithinOneAnother: what is within something is broken only where that is, and only where there is too little room for it then.
func TestWithinOneAnother(t *testing.T) {
	for width := 10; width <= 14; width++ {
		laid(t, "(ab+cd)*ef;", width, "(ab + cd)", "  * ef;")
	}
	laid(t, "(ab+cd)*ef;", 15, "(ab + cd) * ef;")
	for width := 12; width <= 15; width++ {
		laid(t, "ab*(cd+efgh);", width, "ab", "  * (cd", "    + efgh);")
	}
	laid(t, "ab*(cd+efgh);", 16, "ab", "  * (cd + efgh);")
	laid(t, "ab*(cd+efgh);", 17, "ab * (cd + efgh);")
	for width := 10; width <= 13; width++ {
		laid(t, "f(ab,cd)+g(ef,gh);", width, "f(ab, cd)", "  + g(", "    ef,", "    gh", "  );")
	}
	laid(t, "f(ab,cd)+g(ef,gh);", 14, "f(ab, cd)", "  + g(ef, gh);")
	laid(t, "f(ab,cd)+g(ef,gh);", 21, "f(ab, cd)", "  + g(ef, gh);")
	laid(t, "f(ab,cd)+g(ef,gh);", 22, "f(ab, cd) + g(ef, gh);")
	laid(t, "abc(def,ghi)+k;", 12, "abc(", "  def,", "  ghi", ")", "  + k;")
	laid(t, "a+b+c+d;", 11, "a + b + c", "  + d;")
	laid(t, "a+b+c+d;", 13, "a + b + c", "  + d;")
	laid(t, "a+b+c+d;", 14, "a + b + c + d;")
	for width, lines := range map[int][]string{
		11: {"let ab =", "  f(", "    g(", "      1,", "      2", "    ),", "    [3, 4]", "  )", "    + c;"},
		12: {"let ab =", "  f(", "    g(1, 2),", "    [3, 4]", "  )", "    + c;"},
		19: {"let ab =", "  f(", "    g(1, 2),", "    [3, 4]", "  )", "    + c;"},
		20: {"let ab =", "  f(g(1, 2), [3, 4])", "    + c;"},
		24: {"let ab =", "  f(g(1, 2), [3, 4])", "    + c;"},
		25: {"let ab =", "  f(g(1, 2), [3, 4]) + c;"},
		31: {"let ab =", "  f(g(1, 2), [3, 4]) + c;"},
		32: {"let ab = f(g(1, 2), [3, 4]) + c;"},
		99: {"let ab = f(g(1, 2), [3, 4]) + c;"},
	} {
		laid(t, "let ab=f(g(1,2),[3,4])+c;", width, lines...)
	}
}

// TestTooNarrow: where a line is too long whatever is done, as few bytes as can be are above the width; then lines are few.
func TestTooNarrow(t *testing.T) {
	laid(t, "abcdefgh();", 10, "abcdefgh();")
	laid(t, "let a=abcdefgh();", 10, "let a =", "  abcdefgh();")
	for _, width := range []int{10, 13, 14, 15, 16} {
		laid(t, "let abcdefgh=1;", width, "let abcdefgh =", "  1;")
	}
	laid(t, "let abcdefgh=1;", 17, "let abcdefgh = 1;")
	laid(t, "abcdefgh(abcdefgh);", 10, "abcdefgh(", "  abcdefgh", ");")
	laid(t, "[abcdefgh(abcdefgh)];", 10, "[", "  abcdefgh(", "    abcdefgh", "  )", "];")
	// A list that is broken once more is two bytes shorter, and two columns deeper.
	for width := 10; width <= 15; width++ {
		laid(t, "[[[[[[[1]]]]]]];", width, "[", "  [[[[[[1]]]]]]", "];")
	}
	laid(t, "[[[[[[[1]]]]]]];", 16, "[[[[[[[1]]]]]]];")
}

// TestJustAsWide: of each kind a line of each length from some few to MaxWidth + 1 stands where there is just room for it, and not in a column less.
func TestJustAsWide(t *testing.T) {
	type kind struct{ op, long int }
	seen := map[kind]bool{}
	for _, s := range widening() {
		line := printed(t, s)
		long := len(line) - 1
		for width := 10; width <= api.MaxWidth; width++ {
			got := one(t, s, width)
			if isWhole := got == line; isWhole != (long <= width) {
				t.Fatalf("%q has %d bytes, in %d columns it is %q", line, long, width, got)
			}
		}
		seen[kind{s[0].Op, long}] = true
	}
	for _, op := range []int{api.Let, api.Do, api.Note} {
		for long := 16; long <= api.MaxWidth+1; long++ {
			if !seen[kind{op, long}] {
				t.Errorf("no line of %d has %d bytes", op, long)
			}
		}
	}
}

// widening are statements of each kind that are longer and longer, and that may be broken with less above the width.
func widening() [][]api.Tree {
	var all [][]api.Tree
	x := name("xyz")
	for n := 1; n <= 18; n++ {
		for long := 1; long <= 6; long++ {
			first := name(strings.Repeat("a", long))
			all = append(all,
				slices.Concat(row(do), slices.Repeat(row(sum), n), row(first), slices.Repeat(row(x), n)),
				slices.Concat(row(let("z")), slices.Repeat(row(mul), n), row(first), slices.Repeat(row(x), n)))
		}
	}
	for n := 2; n <= api.MaxKids; n++ {
		kids := slices.Repeat(row(num(123456)), n)
		all = append(all, append(row(do, list(n)), kids...), append(row(let("z"), call("f", n)), kids...))
	}
	for n := range 96 {
		words := "b" + strings.Repeat(" a", n/2) + strings.Repeat("b", n%2)
		all = append(all, row(noted("aaaa a "+words)), row(noted("aaaa "+words)))
	}
	return slices.DeleteFunc(all, isShort)
}

// isShort tells whether a statement is shorter than any width.
func isShort(s []api.Tree) bool {
	text, _ := syn.Print(prog(s))
	return len(text)-1 < 10
}

func TestNotes(t *testing.T) {
	for _, width := range []int{10, 11, 50, 99, 100} {
		laid(t, "#", width, "#")
		laid(t, "#  ", width, "#")
		laid(t, "#\n #\n#", width, "#")
		laid(t, "#a", width, "# a")
		laid(t, "##", width, "# #")
		laid(t, "#   a   b  ", width, "# a b")
		laid(t, "#a\n#\n\n  #b", width, "# a b")
	}
	// Two columns are the mark's.
	laid(t, "#aaaa bbb", 10, "# aaaa bbb")
	laid(t, "#aaaa bbbb", 10, "# aaaa", "# bbbb")
	laid(t, "#aaaa bbbb", 11, "# aaaa bbbb")
	laid(t, "#aaaaaaaa b", 10, "# aaaaaaaa", "# b")
	laid(t, "#aaaaaaaaa b", 10, "# aaaaaaaaa", "# b")
	// The lines are the least bad, not those that are filled first.
	laid(t, "#aaaaa bb cc ddddddd", 10, "# aaaaa", "# bb cc", "# ddddddd")
	laid(t, "#aaaaaa b c dddddddd e", 10, "# aaaaaa", "# b c", "# dddddddd", "# e")
	// Of several that are as bad the first line has the most words.
	laid(t, "#aaa b ccc ddddddd", 10, "# aaa b", "# ccc", "# ddddddd")
	for n := 1; n <= api.MaxWord; n++ {
		word := strings.Repeat("w", n)
		laid(t, "#"+word, 10, "# "+word)
		laid(t, "# "+word+" "+word, 10, notedLines(10, slices.Repeat([]string{word}, 2))...)
	}
	// What a note says is no statement.
	laid(t, "#let a=1; b", 11, "# let a=1;", "# b")
}

// notedLines are the lines of words that are all as long, as many in each as there is room for.
func notedLines(width int, words []string) []string {
	each := max(1, (width-2+1)/(len(words[0])+1))
	var lines []string
	for some := range slices.Chunk(words, each) {
		lines = append(lines, "# "+strings.Join(some, " "))
	}
	return lines
}

// TestFilled: notes of so many words that they fill lines, at all widths.
func TestFilled(t *testing.T) {
	for _, many := range []int{1, 2, 7, 59, api.MaxWords} {
		for _, long := range []int{1, 2, 7, 19, api.MaxWord} {
			words := slices.Repeat([]string{strings.Repeat("w", long)}, many)
			for width := 10; width <= api.MaxWidth; width++ {
				got := one(t, row(noted(strings.Join(words, " "))), width)
				held(t, got, words, width)
				// Where each line but the last is full to the last column, none can be better.
				if (width-2+1)%(long+1) == 0 && got != strings.Join(notedLines(width, words), "\n")+"\n" {
					t.Errorf("%d words of %d bytes, %d: %q", many, long, width, got)
				}
			}
		}
	}
}

// held asks that the lines of a note are those that chapter 6 has of its words in 2 columns less.
func held(t *testing.T, text string, words []string, width int) {
	t.Helper()
	lines, err := fill.Fill(words, width-2)
	if err != nil {
		t.Fatal(err)
	}
	want := ""
	for _, line := range lines {
		want += "# " + line + "\n"
	}
	if text != want {
		t.Fatalf("%q, %d:\n got %q\nwant %q", words, width, text, want)
	}
}

// TestLeastBadIsTooLong: the least bad lines of a note may have one that is too long though that need not be; the chapter asks for the least bad ones.
func TestLeastBadIsTooLong(t *testing.T) {
	a, b, c := strings.Repeat("a", 20), strings.Repeat("b", 10), strings.Repeat("c", 19)
	words := []string{a, b, c, b, a, b, c}
	text := "# " + strings.Join(words, " ")
	long := strings.Join(words[:3], " ")
	if len(long) != 51 {
		t.Fatalf("%d bytes", len(long))
	}
	laid(t, text, 52, "# "+long, "# "+strings.Join(words[3:6], " "), "# "+c)
	for _, many := range [][]int{{3, 3, 1}, {2, 2, 2, 1}} {
		bad, err := fill.Ragged(words, many, 50)
		if want := map[int]int{3: 1064, 4: 1122}[len(many)]; bad != want || err != nil {
			t.Errorf("%v: %d, %v", many, bad, err)
		}
	}
}

// badOf tells how bad lines are, by another road than package fill's.
func badOf(lines []string, width int) int {
	bad := 0
	for i, line := range lines {
		if len(line) > width {
			bad += 1000 * (len(line) - width)
		} else if i < len(lines)-1 {
			bad += (width - len(line)) * (width - len(line))
		}
	}
	return bad
}

// triedNote gives the lines of a note, of all there are: of several that are as bad those that break later.
func triedNote(words []string, width int) string {
	var least []string
	// A bit that is set breaks behind a word; the first words have the greatest bits, so that what breaks later is tried first.
	for breaks := range 1 << (len(words) - 1) {
		lines := []string{words[0]}
		for i, word := range words[1:] {
			if breaks>>(len(words)-2-i)&1 == 1 {
				lines = append(lines, word)
			} else {
				lines[len(lines)-1] += " " + word
			}
		}
		if least == nil || badOf(lines, width-2) < badOf(least, width-2) {
			least = lines
		}
	}
	return "# " + strings.Join(least, "\n# ") + "\n"
}

// TestNotesOfSome: notes of some words against all lines that there are.
func TestNotesOfSome(t *testing.T) {
	r := rand.New(rand.NewSource(11))
	for range 1500 {
		words := make([]string, 1+r.Intn(9))
		for i := range words {
			words[i] = strings.Repeat(string(rune('a'+i)), 1+r.Intn(1+r.Intn(api.MaxWord)))
		}
		for _, width := range []int{10, 11, 10 + r.Intn(30), 10 + r.Intn(91)} {
			if got, want := one(t, row(noted(strings.Join(words, " "))), width), triedNote(words, width); got != want {
				t.Fatalf("%q, %d: %q, want %q", words, width, got, want)
			}
		}
	}
}

// exp is an expression with its kids.
type exp struct {
	node api.Tree
	kids []exp
}

// expOf takes the first expression of nodes, and gives those behind it.
func expOf(nodes []api.Tree) (exp, []api.Tree) {
	e := exp{node: nodes[0]}
	n := 0
	switch e.node.Op {
	case api.Call, api.List:
		n = e.node.N
	case api.Sum, api.Mul:
		n = 2
	}
	rest := nodes[1:]
	for range n {
		var kid exp
		kid, rest = expOf(rest)
		e.kids = append(e.kids, kid)
	}
	return e, rest
}

// needed are the kids that have brackets: of which Op, the first or the second one, and what it is.
var needed = [][3]int{{api.Mul, 0, api.Sum}, {api.Mul, 1, api.Sum}, {api.Sum, 1, api.Sum}, {api.Mul, 1, api.Mul}}

// about gives what stands ahead of a kid and behind it.
func (e exp) about(i int) (open, end string) {
	if slices.Contains(needed, [3]int{e.node.Op, i, e.kids[i].node.Op}) {
		return "(", ")"
	}
	return "", ""
}

// ends gives what stands about the kids of a Call or a List.
func (e exp) ends() (open, end string) {
	if e.node.Op == api.List {
		return "[", "]"
	}
	return e.node.Text + "(", ")"
}

// mark gives what stands between the kids of a Sum or a Mul.
func (e exp) mark() string { return map[int]string{api.Sum: "+ ", api.Mul: "* "}[e.node.Op] }

// flat gives an expression in one line.
func (e exp) flat() string {
	switch e.node.Op {
	case api.Num:
		return fmt.Sprint(e.node.N)
	case api.Name:
		return e.node.Text
	}
	var kids []string
	for i, kid := range e.kids {
		open, end := e.about(i)
		kids = append(kids, open+kid.flat()+end)
	}
	if e.mark() != "" {
		return kids[0] + " " + e.mark() + kids[1]
	}
	open, end := e.ends()
	return open + strings.Join(kids, ", ") + end
}

func newLine(deep int) string { return "\n" + strings.Repeat(" ", deep) }

// all gives all texts of an expression that deep, in the order of their ways.
func (e exp) all(deep int) []string {
	texts := []string{e.flat()}
	if e.mark() != "" {
		open, end := e.about(0)
		open2, end2 := e.about(1)
		for _, first := range e.kids[0].all(deep) {
			for _, second := range e.kids[1].all(deep + 2) {
				texts = append(texts, open+first+end+newLine(deep+2)+e.mark()+open2+second+end2)
			}
		}
		return texts
	}
	if len(e.kids) == 0 {
		return texts
	}
	open, end := e.ends()
	broken := []string{open}
	for i, kid := range e.kids {
		comma := ","
		if i == len(e.kids)-1 {
			comma = ""
		}
		var longer []string
		for _, ahead := range broken {
			for _, text := range kid.all(deep + 2) {
				longer = append(longer, ahead+newLine(deep+2)+text+comma)
			}
		}
		broken = longer
	}
	for _, text := range broken {
		texts = append(texts, text+newLine(deep)+end)
	}
	return texts
}

// costOf tells what a text costs, by another road than package cost's.
func costOf(text string, width int) (over, lines int) {
	for line := range strings.SplitSeq(text, "\n") {
		over += max(0, len(line)-width)
	}
	return over, strings.Count(text, "\n")
}

// tried gives the lines of a statement that is no note, of all there are, of several that cost as much the first.
func tried(s []api.Tree, width int) string {
	e, _ := expOf(s[1:])
	var texts []string
	if s[0].Op == api.Let {
		ahead := "let " + s[0].Text + " ="
		texts = append(texts, ahead+" "+e.flat()+";")
		for _, text := range e.all(2) {
			texts = append(texts, ahead+"\n  "+text+";")
		}
	} else {
		for _, text := range e.all(0) {
			texts = append(texts, text+";")
		}
	}
	return slices.MinFunc(texts, func(a, b string) int {
		over, lines := costOf(a, width)
		over2, lines2 := costOf(b, width)
		return slices.Compare([]int{over, lines}, []int{over2, lines2})
	}) + "\n"
}

// piece is a text that may have several lines: what they cost, but for what stands ahead of the first and behind the last one.
type piece struct {
	text        string
	over, lines int
}

func (p piece) isCheaper(q piece) bool {
	return slices.Compare([]int{p.over, p.lines}, []int{q.over, q.lines}) < 0
}

// joined puts pieces into one.
func joined(pieces ...piece) piece {
	var all piece
	for _, p := range pieces {
		all.text, all.over, all.lines = all.text+p.text, all.over+p.over, all.lines+p.lines
	}
	return all
}

// cheapest gives an expression that deep as cheap as can be, with a text ahead of it in its first line, and one behind it in its last.
func (e exp) cheapest(deep, width int, ahead, behind string) piece {
	flat := ahead + e.flat() + behind
	least := piece{text: flat, over: max(0, len(flat)-width)}
	if len(e.kids) == 0 {
		return least
	}
	var broken piece
	inner, outer := strings.Repeat(" ", deep+2), strings.Repeat(" ", deep)
	next := piece{text: "\n", lines: 1}
	if e.mark() != "" {
		open, end := e.about(0)
		open2, end2 := e.about(1)
		broken = joined(e.kids[0].cheapest(deep, width, ahead+open, end), next, e.kids[1].cheapest(deep+2, width, inner+e.mark()+open2, end2+behind))
	} else {
		open, end := e.ends()
		broken = piece{text: ahead + open, over: max(0, len(ahead+open)-width)}
		for i, kid := range e.kids {
			comma := ","
			if i == len(e.kids)-1 {
				comma = ""
			}
			broken = joined(broken, next, kid.cheapest(deep+2, width, inner, comma))
		}
		broken = joined(broken, next, piece{text: outer + end + behind, over: max(0, len(outer+end+behind)-width)})
	}
	if broken.isCheaper(least) {
		return broken
	}
	return least
}

// sought gives the lines of a statement that is no note, however many ways there are: what stands in other lines is sought by itself.
func sought(s []api.Tree, width int) string {
	e, _ := expOf(s[1:])
	if s[0].Op == api.Do {
		return e.cheapest(0, width, "", ";").text + "\n"
	}
	ahead := "let " + s[0].Text + " ="
	flat := ahead + " " + e.flat() + ";"
	least := piece{text: flat, over: max(0, len(flat)-width)}
	broken := joined(piece{text: ahead, over: max(0, len(ahead)-width)}, piece{text: "\n", lines: 1}, e.cheapest(2, width, "  ", ";"))
	if broken.isCheaper(least) {
		return broken.text + "\n"
	}
	return least.text + "\n"
}

// TestOfAll: all statements of a few nodes against all lines that there are, at some widths.
func TestOfAll(t *testing.T) {
	alphabet := row(num(12345), name("abc"), call("abcdef", 0), call("f", 1), list(2), sum, mul)
	rows := [][]api.Tree{nil}
	right := 0
	for range 5 {
		var more [][]api.Tree
		for _, e := range rows {
			for _, node := range alphabet {
				more = append(more, append(slices.Clip(e), node))
			}
		}
		for _, e := range more {
			for _, first := range row(do, let("x")) {
				s := append(row(first), e...)
				if err := tree.Check(s); err != nil {
					refuse(t, s, 10, plain.Told(err))
					continue
				}
				right++
				for _, width := range []int{10, 11, 12, 14, 17, 21, 26} {
					compare(t, s, width, tried(s, width))
					compare(t, s, width, sought(s, width))
				}
			}
		}
		rows = more
	}
	if right < 1000 {
		t.Errorf("only %d statements", right)
	}
}

// compare asks that a statement has these lines.
func compare(t *testing.T, s []api.Tree, width int, want string) {
	t.Helper()
	if got := one(t, s, width); got != want {
		t.Fatalf("%v, %d:\n got %q\nwant %q", s, width, got, want)
	}
}

// grow gives the nodes of an expression of at most so many nodes, and at least one.
func grow(r *rand.Rand, room int) []api.Tree {
	op := api.Call + r.Intn(4)
	if room < 3 || r.Intn(room) == 0 {
		op = api.Num + r.Intn(2)
	}
	text := []string{"a", "bc", "lets", "abcdefgh"}[r.Intn(4)]
	node := api.Tree{Op: op}
	n := 0
	switch op {
	case api.Num:
		node.N = []int{0, 9, 10, 999999, r.Intn(1000000)}[r.Intn(5)]
	case api.Name:
		node.Text = text
	case api.Call:
		node.Text = text
		n = min(r.Intn(7), room-1)
		node.N = n
	case api.List:
		n = min(r.Intn(7), room-1)
		node.N = n
	case api.Sum, api.Mul:
		n = 2
	}
	nodes := row(node)
	left := room - 1
	for i := range n {
		others := n - 1 - i
		kid := grow(r, 1+r.Intn(left-others))
		left -= len(kid)
		nodes = append(nodes, kid...)
	}
	return nodes
}

// first gives the first node of a statement that is no note.
func first(r *rand.Rand) api.Tree {
	if r.Intn(2) == 0 {
		return do
	}
	return let([]string{"x", "abcdefgh"}[r.Intn(2)])
}

// TestOfSome: statements that have grown.
func TestOfSome(t *testing.T) {
	r := rand.New(rand.NewSource(12))
	great := 0
	for range 1500 {
		s := append(row(first(r)), grow(r, 1+r.Intn(39))...)
		if len(s) > 25 {
			great++
		}
		for _, width := range []int{10, 11 + r.Intn(20), 11 + r.Intn(60), 11 + r.Intn(89), api.MaxWidth} {
			compare(t, s, width, sought(s, width))
		}
	}
	if great < 100 {
		t.Errorf("only %d great ones", great)
	}
}

// greatest are statements of MaxTree nodes.
func greatest() [][]api.Tree {
	all := [][]api.Tree{chain(do, api.MaxTree), chain(let("abcdefgh"), api.MaxTree)}
	for _, op := range row(sum, mul) {
		x := name("abcdefgh")
		all = append(all,
			slices.Concat(row(do), slices.Repeat(row(op), 19), slices.Repeat(row(x), 20)),
			slices.Concat(row(let("abcdefgh")), slices.Repeat(row(op, x), 18), row(call("abcdefgh", 2), x, x)))
	}
	calls := row(let("abcdefgh"), call("abcdefgh", 6))
	for range 6 {
		calls = slices.Concat(calls, row(list(5)), slices.Repeat(row(num(999999)), 5))
	}
	return append(all, calls, slices.Concat(row(do), slices.Repeat(row(call("abcdefgh", 1)), 38), row(num(999999))))
}

// TestGreatest: statements of as many nodes as there may be, at all widths.
func TestGreatest(t *testing.T) {
	for _, s := range greatest() {
		if len(s) < api.MaxTree-2 || len(s) > api.MaxTree {
			t.Errorf("%v has %d nodes", s, len(s))
		}
		for width := 10; width <= api.MaxWidth; width++ {
			compare(t, s, width, sought(s, width))
		}
	}
}

// wrong are statements, and what chapter 8 says of them.
var wrong = []struct {
	s    []api.Tree
	want api.Errno
}{
	{nil, api.ErrShape},
	{row(), api.ErrShape},
	{row(num(1)), api.ErrShape},
	{row(name("a")), api.ErrShape},
	{row(list(0)), api.ErrShape},
	{row(sum, num(1), num(2)), api.ErrShape},
	{row(do), api.ErrShape},
	{row(let("a")), api.ErrShape},
	{row(do, num(1), num(2)), api.ErrShape},
	{row(do, sum, num(1)), api.ErrShape},
	{row(do, list(6), num(1)), api.ErrShape},
	{row(do, do, num(1)), api.ErrShape},
	{row(do, noted("a")), api.ErrShape},
	{row(noted("a"), num(1)), api.ErrShape},
	{row(noted("a"), noted("a")), api.ErrShape},
	{row(let("a"), let("b"), num(1)), api.ErrShape},
	{row(do, api.Tree{Op: api.Num, Text: "a"}), api.ErrShape},
	{row(do, api.Tree{Op: api.Name, Text: "a", N: 1}), api.ErrShape},
	{row(do, api.Tree{Op: api.List, Text: "a"}), api.ErrShape},
	{row(do, api.Tree{Op: api.Sum, N: 2}, num(1), num(2)), api.ErrShape},
	{row(do, api.Tree{Op: api.Mul, Text: "*"}, num(1), num(2)), api.ErrShape},
	{row(api.Tree{Op: api.Do, N: 1}, num(1)), api.ErrShape},
	{row(api.Tree{Op: api.Do, Text: "a"}, num(1)), api.ErrShape},
	{row(api.Tree{Op: api.Let, Text: "a", N: 1}, num(1)), api.ErrShape},
	{row(api.Tree{Op: api.Note, Text: "a", N: 1}), api.ErrShape},
	{row(api.Tree{}), api.ErrRange},
	{row(api.Tree{Op: 10}), api.ErrRange},
	{row(api.Tree{Op: -1}), api.ErrRange},
	{row(do, api.Tree{Op: math.MinInt}), api.ErrRange},
	{row(noted("a"), api.Tree{Op: math.MaxInt}), api.ErrRange},
	{row(do, num(-1)), api.ErrRange},
	{row(do, num(1000000)), api.ErrRange},
	{row(do, num(math.MaxInt)), api.ErrRange},
	{append(row(do, list(7)), slices.Repeat(row(num(1)), 7)...), api.ErrRange},
	{append(row(do, call("f", 7)), slices.Repeat(row(num(1)), 7)...), api.ErrRange},
	{row(do, call("f", math.MaxInt)), api.ErrRange},
	{row(do, list(math.MinInt)), api.ErrRange},
	{row(do, name("")), api.ErrSyntax},
	{row(do, name("let")), api.ErrSyntax},
	{row(do, name("A")), api.ErrSyntax},
	{row(do, name("abcdefghi")), api.ErrSyntax},
	{row(do, call("let", 0)), api.ErrSyntax},
	{row(do, call("", 0)), api.ErrSyntax},
	{row(let("let"), num(1)), api.ErrSyntax},
	{row(let(""), num(1)), api.ErrSyntax},
	{row(noted("a"), name("")), api.ErrSyntax},
	{row(noted(" ")), api.ErrSyntax},
	{row(noted(" a")), api.ErrSyntax},
	{row(noted("a ")), api.ErrSyntax},
	{row(noted("a  b")), api.ErrSyntax},
	{row(noted("a\nb")), api.ErrSyntax},
	{row(noted("a\tb")), api.ErrSyntax},
	{row(noted("é")), api.ErrSyntax},
	{row(noted(strings.Repeat("a", 21))), api.ErrSyntax},
	{row(noted(strings.Repeat("a ", 60) + "a")), api.ErrFull},
	{chain(do, 41), api.ErrFull},
	{chain(let("a"), 41), api.ErrFull},
	{chain(noted("a"), 41), api.ErrFull},
	{make([]api.Tree, 41), api.ErrFull},
	{make([]api.Tree, 40), api.ErrRange},
}

// TestWrong: statements that are wrong in each way, at widths that may be; the width comes ahead of all that.
func TestWrong(t *testing.T) {
	for _, w := range wrong {
		for _, width := range []int{10, 11, 55, 99, api.MaxWidth} {
			refuse(t, w.s, width, w.want)
		}
		for _, width := range wrongWidths {
			refuse(t, w.s, width, api.ErrRange)
		}
	}
}

func TestWidths(t *testing.T) {
	statements := [][]api.Tree{row(do, num(1)), row(let("a"), num(1)), row(noted("")), row(noted("a")), chain(let("a"), 40)}
	for _, s := range statements {
		for _, width := range wrongWidths {
			refuse(t, s, width, api.ErrRange)
			refuseText(t, printed(t, s), width, 0, api.ErrRange)
		}
		for width := -300; width <= 300; width++ {
			_, err := One(s, width)
			_, _, err2 := Format(printed(t, s), width)
			if is := width >= 10 && width <= 100; is != (err == nil) || is != (err2 == nil) {
				t.Errorf("%v, %d: %v, %v", s, width, err, err2)
			}
		}
	}
	for _, width := range wrongWidths {
		refuseText(t, "", width, 0, api.ErrRange)
		if err := CheckWidth(width); plain.Told(err) != api.ErrRange {
			t.Errorf("%d: %v", width, err)
		}
	}
	for width := 10; width <= api.MaxWidth; width++ {
		if err := CheckWidth(width); err != nil {
			t.Errorf("%d: %v", width, err)
		}
	}
}

// broken are texts that cannot be read, with a place and an error.
var broken = []struct {
	text  string
	place int
	want  api.Errno
}{
	{"A", 0, api.ErrSyntax},
	{"1; A", 3, api.ErrSyntax},
	{"1;\tb;", 2, api.ErrSyntax},
	{"abcdefghi;", 0, api.ErrSyntax},
	{"a + 012;", 4, api.ErrSyntax},
	{"1234567;", 0, api.ErrSyntax},
	{"a;\n# \xc3\xa9", 3, api.ErrSyntax},
	{"a + ;", 4, api.ErrSyntax},
	{"let let = 1;", 4, api.ErrSyntax},
	{"let a 1;", 6, api.ErrSyntax},
	{"a", 1, api.ErrSyntax},
	{"a ", 2, api.ErrSyntax},
	{"a;\nlet", 6, api.ErrSyntax},
	{"[1, 2;", 5, api.ErrSyntax},
	{"f(1,);", 4, api.ErrSyntax},
	{"();", 1, api.ErrSyntax},
	{";", 0, api.ErrSyntax},
	{"let a = # b\n1;", 8, api.ErrSyntax},
	{"1 # b\n;", 2, api.ErrSyntax},
	{"[1,2,3,4,5,6,7];", 0, api.ErrRange},
	{"1; f(1,2,3,4,5,6,7);", 0, api.ErrRange},
	{"1; # " + strings.Repeat("a", 21), 0, api.ErrSyntax},
	{"1; # " + strings.Repeat("a ", 61), 0, api.ErrFull},
	{"1; " + strings.Repeat("# a\n", 61), 0, api.ErrFull},
	{strings.Repeat("1;", 21), 0, api.ErrFull},
	{strings.Repeat("[", 39) + "1" + strings.Repeat("]", 39) + ";", 0, api.ErrFull},
	{"1" + strings.Repeat("+1", 20) + ";", 0, api.ErrFull},
	{strings.Repeat("(", 150) + "1" + strings.Repeat(")", 150) + ";", 0, api.ErrFull},
	{strings.Repeat(" ", api.MaxText+1), 0, api.ErrFull},
	{strings.Repeat("A", api.MaxText+1), 0, api.ErrFull},
}

// TestCannotBeRead: texts that cannot be read have the place and the error that chapter 9 tells; the width comes ahead of both.
func TestCannotBeRead(t *testing.T) {
	for _, b := range broken {
		if _, place, err := syn.Parse(b.text); place != b.place || plain.Told(err) != b.want {
			t.Errorf("%.100q: Parse %d, %v", b.text, place, err)
		}
		for _, width := range []int{10, 11, 55, 99, api.MaxWidth} {
			refuseText(t, b.text, width, b.place, b.want)
		}
		for _, width := range wrongWidths {
			refuseText(t, b.text, width, 0, api.ErrRange)
		}
	}
}

func TestNothing(t *testing.T) {
	for _, text := range []string{"", " ", "\n", "\n\n", "  \n \n  ", strings.Repeat(" \n", api.MaxText/2)} {
		for width := 10; width <= api.MaxWidth; width++ {
			becomes(t, text, width, "")
		}
	}
}

func TestPrograms(t *testing.T) {
	text := "#so  it is\nlet a=((1+b))*2;f([1,2,3],g());#\n(a);#x\n#y"
	becomes(t, text, 40, "# so it is\nlet a = (1 + b) * 2;\nf([1, 2, 3], g());\n#\na;\n# x y\n")
	becomes(t, text, 19, "# so it is\nlet a =\n  (1 + b) * 2;\nf([1, 2, 3], g());\n#\na;\n# x y\n")
	becomes(t, text, 13, "# so it is\nlet a =\n  (1 + b)\n    * 2;\nf(\n  [1, 2, 3],\n  g()\n);\n#\na;\n# x y\n")
	becomes(t, text, 10, "# so it is\nlet a =\n  (1 + b)\n    * 2;\nf(\n  [\n    1,\n    2,\n    3\n  ],\n  g()\n);\n#\na;\n# x y\n")
	for n := range api.MaxLines + 1 {
		becomes(t, strings.Repeat("a;", n), 10, strings.Repeat("a;\n", n))
		becomes(t, "1;"+strings.Repeat("#\n", n)+"# a", 10, "1;\n# a\n")
	}
	becomes(t, strings.Repeat("a;#b\n", 10), 10, strings.Repeat("a;\n# b\n", 10))
	refuseText(t, strings.Repeat("a;#b\n", 10)+"a;", 10, 0, api.ErrFull)
}

// TestAsMuchAsMayBe: programs of as many words as there may be, with notes of as many words as there may be.
func TestAsMuchAsMayBe(t *testing.T) {
	said := "#" + strings.Repeat(" abcdefghijklmnopqrst", api.MaxWords) + "\n"
	nested := strings.Repeat("[", 14) + "1" + strings.Repeat("]", 14) + ";"
	text := strings.Repeat(said+nested, 10)
	words, _, _, err := lex.Words(text)
	if err != nil || len(words) != api.MaxTokens+10 {
		t.Fatalf("%d words, %v", len(words), err)
	}
	for width := 10; width <= api.MaxWidth; width++ {
		stands(t, text, width)
	}
	refuseText(t, text+"1", 10, 0, api.ErrFull)
	deep := strings.Repeat("[", 38) + "1" + strings.Repeat("]", 38) + ";"
	for width := 10; width <= api.MaxWidth; width++ {
		stands(t, strings.Repeat(deep+said, 3), width)
	}
}

// stands asks all that M2 says of a text, at a width; and that it is the lines of its statements.
func stands(t *testing.T, text string, width int) string {
	t.Helper()
	p, _, err := syn.Parse(text)
	if err != nil {
		t.Fatalf("%.300q: %v", text, err)
	}
	want := ""
	for _, s := range p {
		want += one(t, s, width)
	}
	out := made(t, text, width)
	if out != want {
		t.Fatalf("%.300q, %d:\n got %q\nwant %q", text, width, out, want)
	}
	reads(t, out, p)
	if again := made(t, out, width); again != out {
		t.Fatalf("%.300q, %d: %q, again %q", text, width, out, again)
	}
	return out
}

// someProgram gives a program that can be printed and read.
func someProgram(r *rand.Rand) [][]api.Tree {
	var p [][]api.Tree
	for range r.Intn(api.MaxLines + 1) {
		s := append(row(first(r)), grow(r, 1+r.Intn(1+r.Intn(39)))...)
		isBehind := len(p) > 0 && p[len(p)-1][0].Op == api.Note
		if r.Intn(3) == 0 && !isBehind {
			s = row(noted(someNote(r)))
		}
		longer := append(slices.Clip(p), s)
		text, _ := syn.Print(longer)
		if _, _, err := syn.Parse(text); err != nil {
			break
		}
		p = longer
	}
	return p
}

func someNote(r *rand.Rand) string {
	words := make([]string, r.Intn(1+r.Intn(api.MaxWords+1)))
	for i := range words {
		words[i] = strings.Repeat([]string{"a", "#", ";", "~"}[r.Intn(4)], 1+r.Intn(1+r.Intn(api.MaxWord)))
	}
	return strings.Join(words, " ")
}

// parted gives a text of the same words, with these texts between them, chosen one by one.
func parted(t *testing.T, text string, between func() string) string {
	t.Helper()
	words, _, _, err := lex.Words(text)
	if err != nil {
		t.Fatal(err)
	}
	var b strings.Builder
	for i, word := range words {
		b.WriteString(word)
		gap := between()
		if strings.HasPrefix(word, "#") && !strings.Contains(gap, "\n") {
			gap += "\n"
		}
		if gap == "" && word == "let" && i < len(words)-1 {
			gap = " "
		}
		b.WriteString(gap)
	}
	return b.String()
}

// dressed gives an expression with brackets that nobody needs.
func (e exp) dressed(r *rand.Rand) string {
	var kids []string
	for i, kid := range e.kids {
		open, end := e.about(i)
		kids = append(kids, open+kid.dressed(r)+end)
	}
	text := e.flat()
	if e.mark() != "" {
		text = kids[0] + e.mark() + kids[1]
	} else if len(kids) > 0 {
		open, end := e.ends()
		text = open + strings.Join(kids, ",") + end
	}
	n := max(0, r.Intn(12)-9)
	return strings.Repeat("(", n) + text + strings.Repeat(")", n)
}

// otherwise gives another text of a program: brackets that nobody needs, and notes cut into pieces.
func otherwise(r *rand.Rand, p [][]api.Tree) string {
	var b strings.Builder
	for _, s := range p {
		if s[0].Op == api.Note {
			b.WriteString("#")
			for _, word := range strings.Fields(s[0].Text) {
				b.WriteString([]string{" ", "   ", "\n#", "\n# ", " \n#\n\n  #  "}[r.Intn(5)] + word)
			}
			b.WriteString([]string{"\n", "  \n", "\n#\n"}[r.Intn(3)])
			continue
		}
		if s[0].Op == api.Let {
			b.WriteString("let " + s[0].Text + "=")
		}
		e, _ := expOf(s[1:])
		b.WriteString(e.dressed(r) + ";")
	}
	return b.String()
}

// TestReadAlone: what comes hangs on what is read alone, however the text stood, and at whatever width it was Formatted ahead.
func TestReadAlone(t *testing.T) {
	r := rand.New(rand.NewSource(13))
	dressedUp, large := 0, 0
	for range 150 {
		p := someProgram(r)
		text := printed(t, p...)
		if len(p) > 10 {
			large++
		}
		texts := []string{
			parted(t, text, func() string { return "\n" }),
			parted(t, text, func() string { return "" }),
			parted(t, text, func() string { return []string{"", " ", "   ", "\n", "\n\n  "}[r.Intn(5)] }),
			"\n  " + text + "  \n\n",
		}
		if other := otherwise(r, p); isRead(other) {
			texts = append(texts, other, parted(t, other, func() string { return "\n" }))
			dressedUp++
		}
		for _, width := range []int{10, 11 + r.Intn(20), 11 + r.Intn(89), api.MaxWidth} {
			out := stands(t, text, width)
			for _, other := range texts {
				reads(t, other, p)
				becomes(t, other, width, out)
			}
			for _, ahead := range []int{10, 10 + r.Intn(30), 10 + r.Intn(91), api.MaxWidth} {
				becomes(t, made(t, text, ahead), width, out)
				becomes(t, made(t, texts[r.Intn(len(texts))], ahead), width, out)
			}
		}
	}
	if dressedUp < 75 || large < 10 {
		t.Errorf("only %d with brackets, %d large", dressedUp, large)
	}
}

func isRead(text string) bool {
	_, _, err := syn.Parse(text)
	return err == nil
}

// TestAllWidths: a program at all widths, from what each other width made of it.
func TestAllWidths(t *testing.T) {
	text := "# of all the ways that there are the one that costs least\nlet total=add(price*(count+1),[tax,12,fee(count)],rest)*2;#\nprint(total,[1,2,3]+[]);"
	var outs []string
	for width := 10; width <= api.MaxWidth; width++ {
		outs = append(outs, stands(t, text, width))
	}
	for _, ahead := range outs {
		for i, out := range outs {
			becomes(t, ahead, 10+i, out)
		}
	}
	if n := len(slices.Compact(slices.Clone(outs))); n < 15 {
		t.Errorf("only %d outcomes differ", n)
	}
}

// TestAnyText: texts of words and bytes of all sorts have what chapter 9 tells of them, or stand.
func TestAnyText(t *testing.T) {
	r := rand.New(rand.NewSource(14))
	bits := []string{"let ", "a", "bc", "1", "0", "(", ")", "[", "]", ",", "+", "*", "=", ";", ";", "# b\n", "#\n", " ", "\n", "A", "\t", "\x00", "\xff"}
	right, wrong := 0, 0
	for range 60000 {
		text := ""
		some := bits[:len(bits)-4*r.Intn(2)]
		for range 1 + r.Intn(8) {
			text += some[r.Intn(len(some))]
		}
		width := 10 + r.Intn(91)
		if _, place, err := syn.Parse(text); err != nil {
			refuseText(t, text, width, place, plain.Told(err))
			wrong++
			continue
		}
		stands(t, text, width)
		right++
	}
	if right < 500 || wrong < 10000 {
		t.Errorf("%d right, %d wrong", right, wrong)
	}
}

// TestAnyNodes: nodes of all sorts.
func TestAnyNodes(t *testing.T) {
	r := rand.New(rand.NewSource(15))
	right := 0
	for range 60000 {
		s := make([]api.Tree, 1+r.Intn(4))
		for i := range s {
			s[i] = api.Tree{Op: r.Intn(11), N: max(0, r.Intn(6)-3), Text: []string{"", "", "a", "A", "a b"}[r.Intn(5)]}
		}
		width := 10 + r.Intn(91)
		if err := tree.Check(s); err != nil {
			refuse(t, s, width, plain.Told(err))
			continue
		}
		right++
		if s[0].Op == api.Note && s[0].Text != "" {
			held(t, one(t, s, width), strings.Fields(s[0].Text), width)
		} else if s[0].Op != api.Note {
			compare(t, s, width, tried(s, width))
		}
	}
	if right < 500 {
		t.Errorf("only %d right", right)
	}
}

// TestBehindTheLength: what lies behind a list's length is neither read nor written.
func TestBehindTheLength(t *testing.T) {
	whole := row(do, sum, num(1), name("a"), api.Tree{Op: 77}, noted("a"))
	kept := slices.Clone(whole)
	compare(t, whole[:4], 10, "1 + a;\n")
	refuse(t, whole[:3], 10, api.ErrShape)
	refuse(t, whole[:0], 10, api.ErrShape)
	refuse(t, whole[:5], 10, api.ErrRange)
	compare(t, row(noted("b c"), num(1))[:1], 10, "# b c\n")
	if !slices.Equal(whole, kept) {
		t.Errorf("%v was %v", whole, kept)
	}
}

// apart asks that a text that came out is no piece of one that was handed in.
func apart(t *testing.T, out, in string) {
	t.Helper()
	if out == "" || in == "" {
		return
	}
	start := uintptr(unsafe.Pointer(unsafe.StringData(in)))
	if at := uintptr(unsafe.Pointer(unsafe.StringData(out))); start <= at && at < start+uintptr(len(in)) {
		t.Errorf("%q is a piece of %q", out, in)
	}
}

// TestFreshMemory: what comes out is the caller's, whatever becomes of what was handed in.
func TestFreshMemory(t *testing.T) {
	for _, s := range [][]api.Tree{
		row(do, num(1)), row(do, name("ab")), row(noted("")), row(noted("a")), row(noted("a b c d e f g h")),
		row(let("x"), mul, sum, name("a"), num(2), call("f", 2), list(1), name("b"), name("c")), chain(let("x"), 40),
	} {
		want := one(t, s, 12)
		got := one(t, s, 12)
		for _, node := range s {
			apart(t, got, node.Text)
		}
		clear(s)
		if got != want {
			t.Errorf("%q was %q", got, want)
		}
	}
	for _, text := range []string{"#\n", "# a\n", "a;\n", "let a = 1;\n"} {
		out := made(t, text, 12)
		if out != text {
			t.Errorf("%q was %q", out, text)
		}
		apart(t, out, text)
	}
}

// TestNothingIsKept: what is asked next hangs on nothing that was asked ahead of it.
func TestNothingIsKept(t *testing.T) {
	for _, ahead := range []string{"", "#", "# b", "1;", "a +", "A", "let a=12;", "1;#b\n2;", "[1,2,3,4,5,6,7];"} {
		for _, width := range []int{9, 10, 11, 100, 101} {
			Format(ahead, width)
			becomes(t, "let a=12;", 10, "let a =\n  12;\n")
			Format(ahead, width)
			refuseText(t, "1;A", 10, 2, api.ErrSyntax)
			One(row(noted("a")), width)
			One(row(do), width)
			compare(t, row(let("a"), num(12)), 11, "let a = 12;\n")
		}
	}
}

// TestSoon: great things take little time.
func TestSoon(t *testing.T) {
	start := time.Now()
	refuse(t, make([]api.Tree, 1<<20), 10, api.ErrFull)
	refuse(t, row(noted(strings.Repeat("a ", 1<<24))), 10, api.ErrFull)
	refuse(t, row(noted(strings.Repeat("a", 1<<24))), 10, api.ErrSyntax)
	refuseText(t, strings.Repeat("(", 1<<24), 10, 0, api.ErrFull)
	refuseText(t, strings.Repeat("(", api.MaxText), 10, 0, api.ErrFull)
	for range 20 {
		for _, s := range greatest() {
			One(s, 10)
			One(s, api.MaxWidth)
		}
	}
	if took := time.Since(start); took > 10*time.Second {
		t.Errorf("%v", took)
	}
}
