package desk

import (
	"fmt"
	"math"
	"math/rand"
	"slices"
	"strings"
	"testing"
	"time"
	"unsafe"

	"pargetry/api"
	"pargetry/page"
	"pargetry/plain"
	"pargetry/syn"
)

// The faces as they are given.
var (
	_ func(int) (*Desk, error)              = New
	_ func(*Desk, string) (int, int, error) = (*Desk).Set
	_ func(*Desk, int) error                = (*Desk).Wide
	_ func(*Desk) string                    = (*Desk).Text
	_ func(*Desk) int                       = (*Desk).Width
)

// wrongWidths are none that may be.
var wrongWidths = []int{9, 8, 2, 1, 0, -1, -2, -10, -100, 101, 102, 1000, math.MaxInt32, math.MinInt32, math.MaxInt - 1, math.MinInt + 1, math.MaxInt, math.MinInt}

// asked is a desk, and what is known of it from what it was asked: all that it answers is held against that.
type asked struct {
	*testing.T
	desk  *Desk
	text  string // the one that was set last, without an error
	width int
}

func ask(t *testing.T, width int) *asked {
	t.Helper()
	d, err := New(width)
	if d == nil || err != nil {
		t.Fatalf("%d: %v, %v", width, d, err)
	}
	a := &asked{T: t, desk: d, width: width}
	a.stands()
	return a
}

// stands asks that the desk has the program that was set last, as Format has it at the width that was told last.
func (a *asked) stands() {
	a.Helper()
	want, _, err := page.Format(a.text, a.width)
	if err != nil {
		a.Fatalf("%.300q, %d: %v", a.text, a.width, err)
	}
	// Twice: to be asked changes nothing.
	for range 2 {
		if got := a.desk.Text(); got != want {
			a.Fatalf("%.300q, %d:\n got %.300q\nwant %.300q", a.text, a.width, got, want)
		}
		if got := a.desk.Width(); got != a.width {
			a.Fatalf("width %d, want %d", got, a.width)
		}
	}
}

// read gives the statements of a text that can be read.
func (a *asked) read(text string) [][]api.Tree {
	a.Helper()
	p, _, err := syn.Parse(text)
	if err != nil {
		a.Fatalf("%.300q: %v", text, err)
	}
	return p
}

func has(p [][]api.Tree, s []api.Tree) bool {
	return slices.ContainsFunc(p, func(other []api.Tree) bool { return slices.Equal(s, other) })
}

// fresh tells how many statements of a text are not among those of the one that stands there, node by node.
func (a *asked) fresh(text string) int {
	a.Helper()
	ahead, n := a.read(a.text), 0
	p := a.read(text)
	for i, s := range p {
		if !has(ahead, s) && !has(p[:i], s) {
			n++
		}
	}
	return n
}

// set sets any text, and asks that all is told that is to be told.
func (a *asked) set(text string) int {
	a.Helper()
	_, place, err := page.Format(text, a.width)
	if err != nil {
		a.refuses(text, place, plain.Told(err))
		return 0
	}
	want := a.fresh(text)
	n, place, err := a.desk.Set(text)
	if n != want || place != 0 || err != nil {
		a.Fatalf("%.300q behind %.300q: %d, %d, %v, want %d", text, a.text, n, place, err, want)
	}
	a.text = text
	a.stands()
	return n
}

// sets asks that just so many statements of a text are new.
func (a *asked) sets(text string, want int) {
	a.Helper()
	ahead := a.text
	if n := a.set(text); n != want {
		a.Errorf("%.300q behind %.300q: %d, want %d", text, ahead, n, want)
	}
}

// refuses asks that a text has this place and this error, and nothing beside them, and that all stays as it was.
func (a *asked) refuses(text string, place int, want api.Errno) {
	a.Helper()
	n, got, err := a.desk.Set(text)
	if n != 0 || got != place || plain.Told(err) != want || want == api.OK {
		a.Fatalf("%.300q behind %.300q: %d, %d, %v, want %d, %v", text, a.text, n, got, err, place, want)
	}
	a.stands()
}

// wide asks for a width that may be.
func (a *asked) wide(width int) {
	a.Helper()
	if err := a.desk.Wide(width); err != nil {
		a.Fatalf("%d: %v", width, err)
	}
	a.width = width
	a.stands()
}

// notWide asks for a width that may not be.
func (a *asked) notWide(width int) {
	a.Helper()
	if err := a.desk.Wide(width); plain.Told(err) != api.ErrRange {
		a.Errorf("%d: %v", width, err)
	}
	a.stands()
}

// shows asks for just this text.
func (a *asked) shows(want string) {
	a.Helper()
	if got := a.desk.Text(); got != want {
		a.Errorf("%.300q, %d:\n got %.300q\nwant %.300q", a.text, a.width, got, want)
	}
}

func TestExample(t *testing.T) {
	a := ask(t, 10)
	a.sets("a;b;a;", 2)
	a.shows("a;\nb;\na;\n")
	a.sets("b;c;", 1)
	a.shows("b;\nc;\n")
	a.refuses("b c", 2, api.ErrSyntax)
	a.shows("b;\nc;\n")
	a.notWide(9)
	// Those of README.md.
	a = ask(t, 12)
	a.sets("let x=1+f(a);b;b;", 2)
	a.shows("let x =\n  1 + f(a);\nb;\nb;\n")
	a.wide(40)
	a.shows("let x = 1 + f(a);\nb;\nb;\n")
	a.sets("# so\nlet x=(1+f((a)));", 1)
	a.shows("# so\nlet x = 1 + f(a);\n")
	a.refuses("let x=1+;", 8, api.ErrSyntax)
	a.shows("# so\nlet x = 1 + f(a);\n")
	a.notWide(101)
}

func TestNew(t *testing.T) {
	for width := 10; width <= api.MaxWidth; width++ {
		a := ask(t, width)
		a.shows("")
		a.sets("let a=f(1,[2,3],abcdefgh);# b c d e f g", 2)
	}
	for _, width := range wrongWidths {
		if d, err := New(width); d != nil || plain.Told(err) != api.ErrRange {
			t.Errorf("%d: %v, %v", width, d, err)
		}
	}
	for width := -300; width <= 300; width++ {
		d, err := New(width)
		if is := width >= 10 && width <= 100; is != (d != nil) || is != (err == nil) {
			t.Errorf("%d: %v, %v", width, d, err)
		}
	}
}

// blanks are texts of the empty program.
var blanks = []string{"", " ", "\n", "\n\n", "  \n \n  ", strings.Repeat(" \n", api.MaxText/2)}

func TestNothing(t *testing.T) {
	for _, width := range []int{10, 37, api.MaxWidth} {
		a := ask(t, width)
		for _, text := range blanks {
			a.sets(text, 0)
			a.shows("")
			a.wide(width)
			a.shows("")
		}
		for _, text := range blanks {
			a.sets("a;# b", 2)
			a.sets(text, 0)
			a.shows("")
		}
	}
}

func TestAgain(t *testing.T) {
	text := "#so  it is\nlet a=((1+b))*2;f([1,2,3],g());#\n(a);#x\n#y"
	for _, width := range []int{10, 13, 19, 40, 100} {
		a := ask(t, width)
		a.sets(text, 6)
		a.sets(text, 0)
		a.sets(text, 0)
		// What the desk tells is the same program again.
		a.sets(a.desk.Text(), 0)
		a.sets(" \n"+text+"\n\n ", 0)
		// In another order it is the same statements.
		a.sets("a;#x y\nf([1,2,3],g());#\nlet a=(1+b)*2;#so it is", 0)
		a.shows(made(t, "a;#x y\nf([1,2,3],g());#\nlet a=(1+b)*2;#so it is", width))
	}
}

func made(t *testing.T, text string, width int) string {
	t.Helper()
	out, place, err := page.Format(text, width)
	if place != 0 || err != nil {
		t.Fatalf("%.300q, %d: %d, %v", text, width, place, err)
	}
	return out
}

func TestSomeAreThere(t *testing.T) {
	a := ask(t, 10)
	a.sets("a;b;c;", 3)
	a.sets("b;", 0)
	// a and c went with the program ahead of the last one.
	a.sets("a;b;c;", 2)
	a.sets("c;d;a;e;", 2)
	a.sets("b;", 1)
	a.sets("", 0)
	a.sets("b;", 1)
	a.sets("let b=1;", 1)
	a.sets("let b=1;let b=2;let c=1;b;1;", 4)
	a.sets("# b\n1;", 1)
	a.sets("# b\n# c\n1;", 1)
	a.sets("# b\n1;# c\n2;", 3)
	a.sets("# b c\n1;# c\n", 1)
}

func TestMoreThanOnce(t *testing.T) {
	a := ask(t, 10)
	a.sets("a;a;", 1)
	a.sets("a;a;a;", 0)
	a.sets("b;a;b;a;b;", 1)
	a.sets("b;", 0)
	a.sets("c;c;d;c;d;", 2)
	a.sets("#\n1;#\n1;#\n", 2)
	a.sets("# a\n1;# a\n2;# a\n", 2)
	a.sets("(a);a;((a));", 1)
	for n := 1; n <= api.MaxLines; n++ {
		a.sets("", 0)
		a.sets(strings.Repeat("ab+c;", n), 1)
		a.shows(strings.Repeat("ab + c;\n", n))
		a.sets(strings.Repeat("ab+c;", n-1)+"d;", 1)
	}
}

// TestBeforeLast: what only the program before last had is new again.
func TestBeforeLast(t *testing.T) {
	for _, between := range []string{"", " ", "b;", "# a", "aa;", "let a=a;", "[a];", "b;c;d;"} {
		a := ask(t, 20)
		a.sets("a;", 1)
		a.set(between)
		a.sets("a;", 1)
		a.sets("a;"+between, a.fresh("a;"+between))
		a.sets("a;", 0)
	}
	a := ask(t, 20)
	a.sets("0;x;1;", 3)
	for i := 1; i < 100; i++ {
		a.sets(fmt.Sprintf("%d;x;%d;", i, i+1), 1)
	}
	a.sets("0;x;", 1)
}

// TestBrackets: those that nobody needs make no other statement; those that are needed do.
func TestBrackets(t *testing.T) {
	a := ask(t, 10)
	for _, same := range [][]string{
		{"a;", "(a);", "((a));", "( ( (a) ) ) ;"},
		{"let a=1+2;", "let a=(1+2);", "let a=((1)+(2));"},
		{"a+b+c;", "(a+b)+c;", "((a)+b)+c;", "((a+b)+c);"},
		{"a*b*c;", "(a*b)*c;", "((a*b)*(c));"},
		{"a+b*c;", "a+(b*c);", "(a)+((b)*(c));"},
		{"f(a,[b]);", "f((a),[(b)]);", "(f((a),([b])));"},
		{"(a+b)*c;", "((a+b))*(c);", "(((a)+b)*c);"},
		{"a+(b+c);", "a+((b+c));"},
		{"a*(b*c);", "(a*((b*c)));"},
	} {
		for _, first := range same {
			a.sets("", 0)
			a.sets(first, 1)
			for _, other := range same {
				a.sets(other, 0)
				a.shows(made(t, same[0], 10))
				a.sets(other+first+other, 0)
			}
		}
	}
	a.sets("a+b+c;", 1)
	a.sets("a+(b+c);", 1)
	a.sets("a*b*c;", 1)
	a.sets("a*(b*c);", 1)
	a.sets("a+b*c;", 1)
	a.sets("(a+b)*c;", 1)
	a.sets("a+b+c;a+(b+c);a*b*c;a*(b*c);a+b*c;(a+b)*c;", 5)
}

// TestNotes: the words alone tell a note from another, not the lines they stood in.
func TestNotes(t *testing.T) {
	a := ask(t, 14)
	a.sets("# so it is and so it was", 1)
	for _, text := range []string{
		"#so it is and so it was",
		"#  so   it is and so  it was   ",
		"# so it\n# is and so it was",
		"#so\n#it\n#is\n\n  #and\n#so\n#it\n#was\n#\n",
		"#\n#\n# so it is and so it was",
	} {
		a.sets(text, 0)
		a.shows("# so it is and\n# so it was\n")
	}
	a.sets("# so it is and so it\n1;# was", 3)
	a.sets("# so it is and so it was", 1)
	a.sets("# so it is and so itwas", 1)
	a.sets("#", 1)
	for _, text := range []string{"#", "#   ", "#\n#", "\n\n #\n  #\n"} {
		a.sets(text, 0)
		a.shows("#\n")
	}
	a.sets("##", 1)
	a.sets("# #", 0)
	a.sets("# # #", 1)
	a.sets("# #\n##", 0)
	a.sets("# # #\n##", 1)
}

// alike are statements that differ from one another, though little.
var alike = []string{
	"a;", "aa;", "b;", "a();", "[a];", "[[a]];", "[];", "[[]];", "[a,a];", "[a,[a]];", "[[a],a];", "a(a);", "a(a,a);", "a([a,a]);", "f(a);",
	"let a=a;", "let a=b;", "let b=a;", "let aa=a;", "let a=a();", "let lets=a;", "lets;",
	"0;", "1;", "10;", "11;", "1+0;", "1*0;", "0+1;", "let a=1;", "let a=10;", "[1];", "[1,0];", "[10];",
	"a+a;", "a*a;", "a+a+a;", "a+(a+a);", "a*a*a;", "a*(a*a);", "a+a*a;", "a*a+a;", "(a+a)*a;", "a*(a+a);", "[a+a];", "a(a+a);",
	"#", "# a", "# a a", "# aa", "# a;", "#;", "# let a = a;", "# let a=a;", "# 1;", "##", "# # a", "# A", "# (a);", "# a();",
}

func TestAlike(t *testing.T) {
	for _, width := range []int{10, 40} {
		a := ask(t, width)
		for _, first := range alike {
			for _, other := range alike {
				a.sets("", 0)
				a.sets(first, 1)
				want := 1
				if first == other {
					want = 0
				}
				a.sets(other, want)
			}
		}
	}
}

// broken are texts that cannot be read or have too much of something, with a place and an error.
var broken = []struct {
	text  string
	place int
	want  api.Errno
}{
	{"A", 0, api.ErrSyntax},
	{"a; A", 3, api.ErrSyntax},
	{"a;\tb;", 2, api.ErrSyntax},
	{"a;b;\x00", 4, api.ErrSyntax},
	{"abcdefghi;", 0, api.ErrSyntax},
	{"a + 012;", 4, api.ErrSyntax},
	{"1234567;", 0, api.ErrSyntax},
	{"a;\n# \xc3\xa9", 3, api.ErrSyntax},
	{"a b", 2, api.ErrSyntax},
	{"a + ;", 4, api.ErrSyntax},
	{"let let = 1;", 4, api.ErrSyntax},
	{"let a 1;", 6, api.ErrSyntax},
	{"a", 1, api.ErrSyntax},
	{"a;b;a ", 6, api.ErrSyntax},
	{"a;\nlet", 6, api.ErrSyntax},
	{"[1, 2;", 5, api.ErrSyntax},
	{"f(1,);", 4, api.ErrSyntax},
	{"();", 1, api.ErrSyntax},
	{";", 0, api.ErrSyntax},
	{"let a = # b\n1;", 8, api.ErrSyntax},
	{"[1,2,3,4,5,6,7];", 0, api.ErrRange},
	{"a; f(1,2,3,4,5,6,7);", 0, api.ErrRange},
	{"a; # " + strings.Repeat("a", api.MaxWord+1), 0, api.ErrSyntax},
	{"a; # " + strings.Repeat("a ", api.MaxWords+1), 0, api.ErrFull},
	{"a; " + strings.Repeat("# a\n", api.MaxWords+1), 0, api.ErrFull},
	{strings.Repeat("a;", api.MaxLines+1), 0, api.ErrFull},
	{strings.Repeat("[", 39) + "1" + strings.Repeat("]", 39) + ";", 0, api.ErrFull},
	{"1" + strings.Repeat("+1", 20) + ";", 0, api.ErrFull},
	{strings.Repeat("(", 150) + "1" + strings.Repeat(")", 150) + ";", 0, api.ErrFull},
	{strings.Repeat(" ", api.MaxText+1), 0, api.ErrFull},
	{strings.Repeat("A", api.MaxText+1), 0, api.ErrFull},
}

// TestCannotBeRead: the place and the error are Format's, and all stays as it was, wherever that comes.
func TestCannotBeRead(t *testing.T) {
	for _, width := range []int{10, 11, 55, api.MaxWidth} {
		a := ask(t, width)
		for _, b := range broken {
			if _, place, err := page.Format(b.text, width); place != b.place || plain.Told(err) != b.want {
				t.Errorf("%.100q: Format %d, %v", b.text, place, err)
			}
			fresh := ask(t, width)
			fresh.refuses(b.text, b.place, b.want)
			fresh.shows("")
			fresh.sets("a;b;", 2)
			a.set("")
			a.sets("a;b;# c\n", 3)
			for range 3 {
				a.refuses(b.text, b.place, b.want)
			}
			// What is set next is counted against the program that stands there still.
			a.sets("b;d;# c", 1)
			a.refuses(b.text, b.place, b.want)
			a.sets("a;b;", 1)
			a.refuses(b.text, b.place, b.want)
			a.wide(width)
			a.sets("b;a;", 0)
		}
	}
}

// TestNewAndBroken: what was new in a text that cannot be read is new in the next one still.
func TestNewAndBroken(t *testing.T) {
	a := ask(t, 10)
	a.sets("a;", 1)
	a.refuses("b;c;d", 5, api.ErrSyntax)
	a.sets("b;c;", 2)
	a.refuses("a;"+strings.Repeat("d;", 20), 0, api.ErrFull)
	a.sets("a;d;", 2)
	a.refuses("e;[1,2,3,4,5,6,7];", 0, api.ErrRange)
	a.sets("e;a;", 1)
}

func TestWrongWidths(t *testing.T) {
	for _, width := range []int{10, 12, api.MaxWidth} {
		a := ask(t, width)
		for _, text := range []string{"", "a;", "let a=f(1,2);# b c d e f", "#"} {
			a.set(text)
			for _, wrong := range wrongWidths {
				a.notWide(wrong)
			}
			a.sets(text, 0)
		}
	}
	a := ask(t, 12)
	a.sets("let ab=12;", 1)
	for width := -300; width <= 300; width++ {
		if width >= 10 && width <= 100 {
			a.wide(width)
		} else {
			a.notWide(width)
		}
		a.sets("let ab=12;", 0)
	}
}

func TestWide(t *testing.T) {
	text := "let a=f(1,2);# b c d e\n[1,2,3,4];let a=f(1,2);"
	at10 := "let a =\n  f(1, 2);\n# b c d e\n[\n  1,\n  2,\n  3,\n  4\n];\nlet a =\n  f(1, 2);\n"
	at13 := "let a =\n  f(1, 2);\n# b c d e\n[1, 2, 3, 4];\nlet a =\n  f(1, 2);\n"
	at16 := "let a = f(1, 2);\n# b c d e\n[1, 2, 3, 4];\nlet a = f(1, 2);\n"
	a := ask(t, 10)
	a.sets(text, 3)
	a.shows(at10)
	a.wide(10)
	a.shows(at10)
	a.wide(16)
	a.shows(at16)
	a.wide(10)
	a.shows(at10)
	a.wide(13)
	a.shows(at13)
	a.sets(text, 0)
	a.shows(at13)
	// What is set behind it is laid out at the new width.
	a.sets("[1,2,3,4];a+b+c+d;", 1)
	a.shows("[1, 2, 3, 4];\na + b + c\n  + d;\n")
	a.wide(14)
	a.shows("[1, 2, 3, 4];\na + b + c + d;\n")
	a.sets(text, 2)
	a.shows(at13)
	a.wide(10)
	a.sets("a+b+c+d;[1,2,3,4];", 1)
	a.shows("a + b + c\n  + d;\n[\n  1,\n  2,\n  3,\n  4\n];\n")
}

// TestWideIsNotNew: another width does not change what counts as new.
func TestWideIsNotNew(t *testing.T) {
	for ahead := 10; ahead <= api.MaxWidth; ahead += 9 {
		for width := 10; width <= api.MaxWidth; width += 5 {
			a := ask(t, ahead)
			a.wide(width)
			a.sets("let a=f(1,2);b;b;", 2)
			a.wide(ahead)
			a.wide(width)
			a.sets("b;let a=f(1,2);", 0)
			a.wide(ahead)
			a.sets("b;c;", 1)
			a.wide(width)
			a.sets("let a=f(1,2);b;", 1)
			a.sets("", 0)
			a.wide(ahead)
			a.sets("b;", 1)
		}
	}
}

// TestAllWidths: from each width to each other one.
func TestAllWidths(t *testing.T) {
	text := "# of all the ways that there are the one that costs least\nlet total=add(price*(count+1),[tax,12,fee(count)],rest)*2;#\nprint(total,[1,2,3]+[]);"
	a := ask(t, 10)
	a.sets(text, 4)
	for first := 10; first <= api.MaxWidth; first++ {
		for second := 10; second <= api.MaxWidth; second += 7 {
			a.wide(first)
			a.wide(second)
		}
		a.sets(text, 0)
	}
}

// TestAsMuchAsMayBe: programs of as many statements, words and notes as there may be.
func TestAsMuchAsMayBe(t *testing.T) {
	said := func(i int) string {
		return "#" + strings.Repeat(" abcdefghijklmnopqrst", api.MaxWords-1) + fmt.Sprintf(" %d\n", i)
	}
	nested := func(i int) string {
		return strings.Repeat("[", 14) + fmt.Sprint(i) + strings.Repeat("]", 14) + ";"
	}
	text, other := "", ""
	for i := range 10 {
		text += said(i) + nested(i)
		other += said(9-i) + nested(2*i)
	}
	a := ask(t, 10)
	a.sets(text, 20)
	a.sets(text, 0)
	a.sets(other, 5)
	a.refuses(other+"1;", 0, api.ErrFull)
	for width := 10; width <= api.MaxWidth; width++ {
		a.wide(width)
		a.sets(text, 5)
		a.sets(a.desk.Text(), 0)
		a.sets(other, 5)
	}
	deep := strings.Repeat("[", 38) + "1" + strings.Repeat("]", 38) + ";"
	a.sets(strings.Repeat(deep+said(10), 3), 2)
	a.wide(10)
	a.sets(said(10)+deep, 0)
}

// TestOnlyWhatIsNew: what is known is not laid out again; at another width all is.
func TestOnlyWhatIsNew(t *testing.T) {
	d, err := New(10)
	if err != nil {
		t.Fatal(err)
	}
	set := func(text string, want string) {
		t.Helper()
		if _, _, err := d.Set(text); err != nil {
			t.Fatal(err)
		}
		if got := d.Text(); got != want {
			t.Errorf("%q: %q, want %q", text, got, want)
		}
	}
	set("a;b;", "a;\nb;\n")
	// A mark in the lines that are known: laid out again they would not have it.
	marked := d.known["a;\n"]
	marked.lines = "marked\n"
	d.known["a;\n"] = marked
	set("b;c;(a);", "b;\nc;\nmarked\n")
	set("a;a;", "marked\nmarked\n")
	if _, _, err := d.Set("a;b"); err == nil || d.Text() != "marked\nmarked\n" {
		t.Errorf("%q, %v", d.Text(), err)
	}
	if err := d.Wide(9); err == nil || d.Text() != "marked\nmarked\n" {
		t.Errorf("%q, %v", d.Text(), err)
	}
	if err := d.Wide(11); err != nil || d.Text() != "a;\na;\n" {
		t.Errorf("%q, %v", d.Text(), err)
	}
}

// TestNoMoreIsKept: a desk has the statements of its program, each once, and no others.
func TestNoMoreIsKept(t *testing.T) {
	a := ask(t, 10)
	for i, text := range []string{"a;b;a;", "b;c;", "", "a;a;a;", "# a\n# b\n1;# a b", "b;"} {
		a.set(text)
		a.set(text)
		a.wide(10 + i)
		a.refuses(text+"\nx", len(text)+2, api.ErrSyntax)
		var once [][]api.Tree
		p := a.read(text)
		for _, s := range p {
			if !has(once, s) {
				once = append(once, s)
			}
		}
		if len(a.desk.known) != len(once) || len(a.desk.order) != len(p) {
			t.Errorf("%q: %d of %d, %d of %d", text, len(a.desk.known), len(once), len(a.desk.order), len(p))
		}
	}
}

// TestErrorWithin: an error of One, which no statement that is read has, leaves all as it was too.
func TestErrorWithin(t *testing.T) {
	s := sheet{width: 10}
	right, wrong := []api.Tree{{Op: api.Do}, {Op: api.Num}}, []api.Tree{{Op: api.Do}}
	next, n, err := s.follow([][]api.Tree{right, wrong})
	if next.width != 0 || next.order != nil || next.known != nil || n != 0 || plain.Told(err) != api.ErrShape {
		t.Errorf("%v, %d, %v", next, n, err)
	}
	s.width = 9
	next, n, err = s.follow([][]api.Tree{right})
	if next.width != 0 || next.order != nil || next.known != nil || n != 0 || plain.Told(err) != api.ErrRange {
		t.Errorf("%v, %d, %v", next, n, err)
	}
	if s.order != nil || s.known != nil {
		t.Errorf("%v", s)
	}
}

// TestTwoDesks: they know nothing of one another.
func TestTwoDesks(t *testing.T) {
	a, b := ask(t, 10), ask(t, 10)
	a.sets("let a=12;b;", 2)
	b.shows("")
	b.sets("b;", 1)
	a.shows("let a =\n  12;\nb;\n")
	a.wide(20)
	b.stands()
	b.sets("let a=12;", 1)
	b.shows("let a =\n  12;\n")
	a.sets("c;", 1)
	b.stands()
	b.refuses("c", 1, api.ErrSyntax)
	a.stands()
	b.sets("c;", 1)
	a.sets("c;", 0)
	b.notWide(0)
	a.stands()
	a.sets("", 0)
	b.stands()
	b.sets("c;", 0)
	a.sets("c;", 1)
}

// overwritten is a text that can be written into behind a call.
type overwritten []byte

func (o overwritten) text() string { return unsafe.String(unsafe.SliceData(o), len(o)) }

func (o overwritten) spoil() {
	for i := range o {
		o[i] = '!'
	}
}

// TestNothingHandedInIsKept: what becomes of a text behind Set is nothing to the desk.
func TestNothingHandedInIsKept(t *testing.T) {
	for _, text := range []string{"a;", "abcdefgh;", "# a", "# abc def", "#abc\n#def", "let abc=def(ghi,123456)*[k];# lmn\no;", "abc;abc;(abc);"} {
		a := ask(t, 12)
		in := overwritten(text)
		n, _, err := a.desk.Set(in.text())
		if n != a.fresh(text) || err != nil {
			t.Fatalf("%q: %d, %v", text, n, err)
		}
		if string(in) != text {
			t.Fatalf("%q was %q", in, text)
		}
		in.spoil()
		a.text = text
		a.stands()
		a.wide(40)
		a.wide(10)
		a.sets(text, 0)
		a.sets(text+"\nz;", 1)
		a.sets("z;", 0)
		in = overwritten(text + "\n;")
		if n, place, err := a.desk.Set(in.text()); n != 0 || place != len(text)+1 || plain.Told(err) != api.ErrSyntax {
			t.Errorf("%q: %d, %d, %v", in, n, place, err)
		}
		in.spoil()
		a.stands()
		a.sets("z;"+text, a.fresh("z;"+text))
	}
}

// apart asks that two texts share no memory.
func apart(t *testing.T, a, b string) {
	t.Helper()
	if a == "" || b == "" {
		return
	}
	first, second := uintptr(unsafe.Pointer(unsafe.StringData(a))), uintptr(unsafe.Pointer(unsafe.StringData(b)))
	if first < second+uintptr(len(b)) && second < first+uintptr(len(a)) {
		t.Errorf("%.300q and %.300q share memory", a, b)
	}
}

// TestFreshMemory: what comes out is the caller's.
func TestFreshMemory(t *testing.T) {
	for _, text := range []string{"#\n", "# a\n", "a;\n", "let a = 1;\n", "a;\n# b\n", "a;\na;\n"} {
		a := ask(t, 12)
		a.set(text)
		first, second := a.desk.Text(), a.desk.Text()
		if first != text {
			t.Errorf("%q was %q", first, text)
		}
		apart(t, first, text)
		apart(t, first, second)
		for _, e := range a.desk.known {
			apart(t, first, e.lines)
			apart(t, second, e.lines)
		}
		a.set("b;" + text)
		a.wide(13)
		a.set("")
		if first != text || second != text {
			t.Errorf("%q, %q, want %q", first, second, text)
		}
	}
}

// some gives a text of statements of which many are met again, with brackets and blanks that nobody needs; now and then it cannot be read.
func some(r *rand.Rand) string {
	var b strings.Builder
	for range r.Intn(1 + r.Intn(24)) {
		s := alike[r.Intn(1+r.Intn(len(alike)))]
		if e, is := strings.CutSuffix(s, ";"); is && !strings.HasPrefix(s, "let ") && !strings.HasPrefix(s, "#") && r.Intn(3) == 0 {
			s = strings.Repeat("(", 2) + e + " ) ) ;"
		}
		if r.Intn(5) == 0 {
			s = fmt.Sprintf("let x=total(%d,[a,b,price]*(c+d));", r.Intn(5))
		}
		b.WriteString(s + []string{"\n", " \n", "\n\n  ", "\n#\n"}[max(0, r.Intn(8)-4)])
	}
	if r.Intn(10) == 0 {
		b.WriteString(broken[r.Intn(len(broken))].text)
	}
	return b.String()
}

// TestSomeCalls: many calls on some desks, by turns.
func TestSomeCalls(t *testing.T) {
	r := rand.New(rand.NewSource(12))
	seen := map[string]int{}
	for range 40 {
		desks := []*asked{ask(t, 10+r.Intn(91)), ask(t, 10), ask(t, 10+r.Intn(20))}
		for range 100 {
			a := desks[r.Intn(len(desks))]
			switch k := r.Intn(10); {
			case k == 0:
				a.notWide(wrongWidths[r.Intn(len(wrongWidths))])
			case k < 3:
				a.wide(10 + r.Intn(1+r.Intn(91)))
			default:
				text := some(r)
				n := a.set(text)
				switch {
				case a.text != text:
					seen["refused"]++
				case n == 0:
					seen["none"]++
				case n == len(a.read(text)):
					seen["all"]++
				default:
					seen["few"]++
				}
			}
			for _, other := range desks {
				other.stands()
			}
		}
	}
	for _, kind := range []string{"refused", "none", "all", "few"} {
		if seen[kind] < 100 {
			t.Errorf("only %d of %q", seen[kind], kind)
		}
	}
}

// TestAnyText: texts of words and bytes of all sorts.
func TestAnyText(t *testing.T) {
	r := rand.New(rand.NewSource(13))
	bits := []string{"let ", "a", "bc", "1", "0", "(", ")", "[", "]", ",", "+", "*", "=", ";", ";", "a;", "b;", "# b\n", "#\n", " ", "\n", "A", "\t", "\x00", "\xff"}
	right := 0
	a := ask(t, 10)
	for range 60000 {
		text := ""
		some := bits[:len(bits)-4*r.Intn(2)]
		for range 1 + r.Intn(8) {
			text += some[r.Intn(len(some))]
		}
		a.set(text)
		if a.text == text {
			right++
		}
	}
	if right < 500 {
		t.Errorf("only %d right", right)
	}
}

// TestSoon: great things take little time, and what is there already takes less.
func TestSoon(t *testing.T) {
	a := ask(t, 10)
	start := time.Now()
	a.refuses(strings.Repeat("(", 1<<24), 0, api.ErrFull)
	a.refuses(strings.Repeat("(", api.MaxText), 0, api.ErrFull)
	text := "let a=" + strings.Repeat("f(g(1,2,3),[4,5]*x)+", 3) + "1;"
	for range 200 {
		a.set(text)
		a.wide(10)
	}
	if took := time.Since(start); took > 10*time.Second {
		t.Errorf("%v", took)
	}
}
