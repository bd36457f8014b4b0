package look

import (
	"fmt"
	"math"
	"math/rand"
	"slices"
	"strings"
	"testing"
	"time"
	"unsafe"

	"pargetry/api"
	"pargetry/lex"
	"pargetry/page"
	"pargetry/plain"
	"pargetry/syn"
)

// The faces as they are given.
var (
	_ func(string, int) (int, int, error) = Check
	_ func(string, string) (bool, error)  = Same
)

// wrongWidths are none that may be.
var wrongWidths = []int{9, 8, 2, 1, 0, -1, -2, -10, -100, 101, 102, 1000, math.MaxInt32, math.MinInt32, math.MaxInt - 1, math.MinInt + 1, math.MaxInt, math.MinInt}

// someWidths are the least one, the greatest one and some between.
var someWidths = []int{10, 11, 13, 16, 20, 29, 40, 63, 99, api.MaxWidth}

// lent hands a text in whose bytes can be looked at behind the call.
func lent(t *testing.T, text string, call func(string)) {
	t.Helper()
	in := []byte(text)
	call(unsafe.String(unsafe.SliceData(in), len(in)))
	if string(in) != text {
		t.Fatalf("%.300q was %.300q", in, text)
	}
}

// checked asks Check, twice: that it was asked changes nothing.
func checked(t *testing.T, text string, width int) (n, place int, err error) {
	t.Helper()
	lent(t, text, func(text string) { n, place, err = Check(text, width) })
	again, at, other := Check(text, width)
	if again != n || at != place || plain.Told(other) != plain.Told(err) {
		t.Fatalf("%.300q, %d: %d, %d, %v, and then %d, %d, %v", text, width, n, place, err, again, at, other)
	}
	return n, place, err
}

// is asks that Check gives just this number.
func is(t *testing.T, text string, width, want int) {
	t.Helper()
	if n, place, err := checked(t, text, width); n != want || place != 0 || err != nil {
		t.Errorf("%.300q, %d: %d, %d, %v, want %d", text, width, n, place, err, want)
	}
}

// refuses asks that Check has this place and this error, and that its number is 0.
func refuses(t *testing.T, text string, width, place int, want api.Errno) {
	t.Helper()
	if n, got, err := checked(t, text, width); n != 0 || got != place || plain.Told(err) != want || want == api.OK {
		t.Errorf("%.300q, %d: %d, %d, %v, want %d, %v", text, width, n, got, err, place, want)
	}
}

// made gives what Format makes of a text that has no error.
func made(t *testing.T, text string, width int) string {
	t.Helper()
	out, place, err := page.Format(text, width)
	if place != 0 || err != nil {
		t.Fatalf("%.300q, %d: %d, %v", text, width, place, err)
	}
	return out
}

// told asks Same, both ways round.
func told(t *testing.T, a, b string, want bool) {
	t.Helper()
	for _, pair := range [][2]string{{a, b}, {b, a}} {
		lent(t, pair[0], func(first string) {
			lent(t, pair[1], func(second string) {
				if got, err := Same(first, second); got != want || err != nil {
					t.Errorf("%.300q, %.300q: %t, %v, want %t", first, second, got, err, want)
				}
			})
		})
	}
}

// refusesBoth asks that Same has this error, and says false beside it.
func refusesBoth(t *testing.T, a, b string, want api.Errno) {
	t.Helper()
	lent(t, a, func(first string) {
		lent(t, b, func(second string) {
			if got, err := Same(first, second); got || plain.Told(err) != want || want == api.OK {
				t.Errorf("%.300q, %.300q: %t, %v, want %v", first, second, got, err, want)
			}
		})
	})
}

func TestExample(t *testing.T) {
	is(t, "a;\nb ;\n", 20, 1)
	is(t, "a;\nb;\n", 20, -1)
	told(t, "a;", "( a ) ;", true)
	told(t, "a;", "b;", false)
	// Those of README.md.
	is(t, "# so it is\nlet x =\n  1 + f(a);\n", 12, -1)
	is(t, "# so it is\nlet x =\n  1 + f(a);\n", 40, 1)
	is(t, "# so it is\nlet x = 1 + f(a);", 40, 2)
	refuses(t, "let x=1+;", 40, 8, api.ErrSyntax)
	told(t, "let x=1+f(a);", "let x = (1 +\n  f(a));", true)
	told(t, "1+2;", "2+1;", false)
	refusesBoth(t, "let x=1+;", "", api.ErrSyntax)
}

// programs are texts of some statements, however they stand.
var programs = []string{
	"",
	"a;",
	"#",
	"# so it is",
	"let a=f(1,2);# b c",
	"a;b;c;d;",
	"#so\n# it is\nlet x=(1+f((a)));",
	"[1,2,3,4];abcd(e,f);(ab+cd)*ef;",
	"[[[[[[[1]]]]]]];#\nabcdefgh(abcdefgh);",
	"# of all the ways that there are the one that costs least\nlet total=add(price*(count+1),[tax,12,fee(count)],rest)*2;#\nprint(total,[1,2,3]+[]);",
	"#" + strings.Repeat(" abcdefghijklmnopqrst", api.MaxWords) + "\n" + strings.Repeat("ab+c;", api.MaxLines-1),
	strings.Repeat("[", 38) + "1" + strings.Repeat("]", 38) + ";",
}

// TestSo: what Format makes is so, at each width that may be.
func TestSo(t *testing.T) {
	for _, text := range programs {
		for width := 10; width <= api.MaxWidth; width++ {
			is(t, made(t, text, width), width, -1)
		}
	}
}

// TestNothing: of texts without statements nothing is made, which is one empty line.
func TestNothing(t *testing.T) {
	for _, width := range someWidths {
		is(t, "", width, -1)
		is(t, " ", width, 0)
		is(t, "    ", width, 0)
		is(t, " \n", width, 0)
		is(t, "\n", width, 1)
		is(t, "\n\n", width, 1)
		is(t, "\n\n\n\n", width, 1)
		is(t, "\n ", width, 1)
		is(t, "\n \n", width, 1)
		is(t, strings.Repeat("\n", api.MaxText), width, 1)
		is(t, strings.Repeat(" ", api.MaxText), width, 0)
	}
}

func TestFirstLine(t *testing.T) {
	is(t, " a;\nb;\n", 20, 0)
	is(t, "a ;\nb;\n", 20, 0)
	is(t, "a; \nb;\n", 20, 0)
	is(t, "\na;\nb;\n", 20, 0)
	is(t, "a;b;\n", 20, 0)
	is(t, "a; b;\n", 20, 0)
	is(t, "a\n;\nb;\n", 20, 0)
	is(t, "(a);\nb;\n", 20, 0)
	is(t, "a+b;\n", 20, 0)
	is(t, "a  + b;\n", 20, 0)
	is(t, "let a=1;\n", 20, 0)
	is(t, "let a =\n  1;\n", 20, 0)
	is(t, "f(a,b);\n", 20, 0)
	is(t, "f( a, b);\n", 20, 0)
	is(t, "f (a, b);\n", 20, 0)
	is(t, "[ ];\n", 20, 0)
	is(t, "#a\n", 20, 0)
	is(t, "#  a\n", 20, 0)
	is(t, "# a  b\n", 20, 0)
	is(t, "# \n", 20, 0)
	is(t, " #\n", 20, 0)
	// All lines are others: the first one is told.
	is(t, " a ;\n b ;\n c ;\n", 20, 0)
}

func TestLaterLine(t *testing.T) {
	is(t, "a;\n b;\nc;\n", 20, 1)
	is(t, "a;\nb ;\nc ;\n", 20, 1)
	is(t, "a;\n\nb;\nc;\n", 20, 1)
	is(t, "a;\nb;c;\n", 20, 1)
	is(t, "a;\nb;\n\nc;\n", 20, 2)
	is(t, "a;\nb;\nc; \n", 20, 2)
	is(t, "a;\nb;\n(c);\n", 20, 2)
	is(t, "# a\nb+c;\n", 20, 1)
	is(t, "# a\n b;\n#\n", 20, 1)
	is(t, "a;\n#b\n", 20, 1)
	is(t, "let a =\n  f(1, 2);\n# b c\n", 10, -1)
	is(t, "let a =\n f(1, 2);\n# b c\n", 10, 1)
	is(t, "let a =\n   f(1, 2);\n# b c\n", 10, 1)
	is(t, "let a =\n  f(1,2);\n# b c\n", 10, 1)
	is(t, "let a =\n  f(1, 2);\n# b\n# c\n", 10, 2)
	is(t, "let a =\n  f(1,\n 2);\n# b c\n", 10, 1)
}

// TestEnd: a byte 10 that is missing at the end, and one too many: what stands behind the last byte 10 is a line too.
func TestEnd(t *testing.T) {
	is(t, "a;", 20, 1)
	is(t, "a;\n", 20, -1)
	is(t, "a;\n\n", 20, 2)
	is(t, "a;\n\n\n", 20, 2)
	is(t, "a; ", 20, 0)
	is(t, "a;\n ", 20, 1)
	is(t, "a;\n \n", 20, 1)
	is(t, "a;\n\n ", 20, 2)
	is(t, "a;\nb;", 20, 2)
	is(t, "a;\nb;\n\n", 20, 3)
	is(t, "a;\nb;\n ", 20, 2)
	is(t, "#", 20, 1)
	is(t, "#\n", 20, -1)
	is(t, "#\n\n", 20, 2)
	is(t, "#\n#", 20, 1)
	is(t, "#\n#\n", 20, 1)
	is(t, "# a\n#", 20, 1)
	is(t, "# a\n#\n", 20, 1)
	is(t, "# a\n\n#\n", 20, 2)
	is(t, "let a =\n  12;", 10, 2)
	is(t, "let a =\n  12;\n\n", 10, 3)
}

// TestBeginning: a text that is the beginning of what is made of it, and one that goes on behind it.
func TestBeginning(t *testing.T) {
	for _, text := range programs[1:] {
		for _, width := range someWidths {
			out := made(t, text, width)
			many := strings.Count(out, "\n")
			is(t, strings.TrimSuffix(out, "\n"), width, many)
			for n := 1; n <= 3; n++ {
				is(t, out+strings.Repeat("\n", n), width, many+1)
				is(t, out+strings.Repeat(" ", n), width, many)
				is(t, out+strings.Repeat(" \n", n), width, many)
				is(t, out+strings.Repeat("\n ", n), width, many+1)
			}
		}
	}
	// What is made goes on where the text ends.
	is(t, "# aaaa bbbb", 10, 0)
	is(t, "[1, 2, 3, 4];", 12, 0)
}

func TestBrackets(t *testing.T) {
	is(t, "(a + b) * c;\n", 20, -1)
	is(t, "((a + b)) * c;\n", 20, 0)
	is(t, "(a + b) * (c);\n", 20, 0)
	is(t, "a + (b * c);\n", 20, 0)
	is(t, "a + (b + c);\n", 20, -1)
	is(t, "(a + b) + c;\n", 20, 0)
	is(t, "a;\n(b);\n", 20, 1)
	is(t, "f(\n  abcd,\n  efgh\n);\n", 10, -1)
	is(t, "f(\n  abcd,\n  (efgh)\n);\n", 10, 2)
	is(t, "f(\n  (abcd),\n  efgh\n);\n", 10, 1)
	is(t, "(f(\n  abcd,\n  efgh\n));\n", 10, 0)
	is(t, "a\n  * (b\n    + cdefgh);\n", 12, -1)
	is(t, "a\n  * ((b\n    + cdefgh));\n", 12, 1)
	is(t, "a\n  * (b\n    + (cdefgh));\n", 12, 2)
}

func TestNoteLines(t *testing.T) {
	is(t, "# aaaa bbb\n", 10, -1)
	is(t, "# aaaa\n# bbb\n", 10, 0)
	is(t, "# aaaa bbbb\n", 10, 0)
	is(t, "# aaaa\n# bbbb\n", 10, -1)
	is(t, "# aaaa\n# bbbb\n", 11, 0)
	is(t, "# aaaaaaaa\n# b\n# c\n", 10, 1)
	is(t, "# aaaaaaaa\n# b c\n", 10, -1)
	is(t, "# aaaaaaaa\n#\n# b c\n", 10, 1)
	is(t, "# aaaaaaaa\n# b c\n#\n", 10, 2)
	is(t, "#\n# aaaaaaaa\n# b c\n", 10, 0)
	is(t, "# aaaaaaaa\n\n# b c\n", 10, 1)
	// The least bad lines, not those that are filled first.
	is(t, "# aaaaa\n# bb cc\n# ddddddd\n", 10, -1)
	is(t, "# aaaaa bb\n# cc\n# ddddddd\n", 10, 0)
	is(t, "1;\n# aaaaa\n# bb cc\n# ddddddd\n2;\n", 10, -1)
	is(t, "1;\n# aaaaa\n# bb\n# cc\n# ddddddd\n2;\n", 10, 2)
}

// TestOtherWidth: a text that is so at some widths and not at others.
func TestOtherWidth(t *testing.T) {
	for width := 10; width <= api.MaxWidth; width++ {
		narrow, wide := "let ab =\n  f(g(1, 2), [3, 4]) + c;\n", "let ab = f(g(1, 2), [3, 4]) + c;\n"
		switch {
		case width >= 32:
			is(t, narrow, width, 0)
			is(t, wide, width, -1)
			is(t, "1;\n"+narrow, width, 1)
		case width >= 25:
			is(t, narrow, width, -1)
			is(t, wide, width, 0)
		default:
			is(t, narrow, width, 1)
			is(t, wide, width, 0)
			is(t, "1;\n"+narrow, width, 2)
		}
	}
}

// another is a text, and the number that is to be told of it.
type another struct {
	text string
	want int
}

// touched are texts that are read as one that Format made, each with something else in just one place.
func touched(out string) []another {
	var all []another
	lines := strings.Split(out, "\n")
	last := len(lines) - 1
	put := func(i, n, want int, line ...string) {
		text := strings.Join(slices.Concat(lines[:i], line, lines[i+n:]), "\n")
		all = append(all, another{text, want})
	}
	for i, line := range lines[:last] {
		deep := len(line) - len(strings.TrimLeft(line, " "))
		put(i, 1, i, " "+line)
		put(i, 1, i, line+" ")
		put(i, 1, i, "", line)
		put(i, 1, i, " ", line)
		put(i, 1, i, line+" ", "")
		if deep > 0 {
			put(i, 1, i, line[1:])
			put(i, 1, i, line[deep:])
		}
		if n := strings.IndexByte(line[deep:], ' ') + deep; n >= deep {
			put(i, 1, i, line[:n]+" "+line[n:])
		}
		if i < last-1 && !strings.HasPrefix(line, "#") {
			put(i, 2, i, line+lines[i+1])
			put(i, 2, i, line+" "+lines[i+1])
		}
	}
	put(last, 1, last+1, "", "")
	if last > 0 {
		put(last, 1, last)
	}
	return all
}

func TestTouched(t *testing.T) {
	many := 0
	for _, text := range programs {
		for _, width := range someWidths {
			out := made(t, text, width)
			for _, a := range touched(out) {
				if got := made(t, a.text, width); got != out {
					t.Fatalf("%.300q is %.300q, want %.300q", a.text, got, out)
				}
				is(t, a.text, width, a.want)
				told(t, a.text, out, true)
				many++
			}
		}
	}
	if many < 5000 {
		t.Errorf("only %d", many)
	}
}

// modelled tells by bytes, and not by lines, which line is the first that differs.
func modelled(text, out string) int {
	if text == out {
		return -1
	}
	i := 0
	for i < len(text) && i < len(out) && text[i] == out[i] {
		i++
	}
	n := strings.Count(text[:i], "\n")
	// One of them has ended: its last line may be the other one's too.
	rest := text[i:] + out[i:]
	if (i == len(text) || i == len(out)) && rest[0] == '\n' {
		n++
	}
	return n
}

// broken are texts that cannot be read or have too much of something, with a place and an error.
var broken = []struct {
	text  string
	place int
	want  api.Errno
}{
	{"A", 0, api.ErrSyntax},
	{"a; A", 3, api.ErrSyntax},
	{"a;\tb;", 2, api.ErrSyntax},
	{"a;\r\n", 2, api.ErrSyntax},
	{"a;b;\x00", 4, api.ErrSyntax},
	{"abcdefghi;", 0, api.ErrSyntax},
	{"a + 012;", 4, api.ErrSyntax},
	{"1234567;", 0, api.ErrSyntax},
	{"a;\n# \xc3\xa9", 3, api.ErrSyntax},
	{"a b", 2, api.ErrSyntax},
	{"a + ;", 4, api.ErrSyntax},
	{"let let = 1;", 4, api.ErrSyntax},
	{"let a 1;", 6, api.ErrSyntax},
	{"a", 1, api.ErrSyntax},
	{"a;b;a ", 6, api.ErrSyntax},
	{"a;\nb;\nc\n", 8, api.ErrSyntax},
	{"a;\nlet", 6, api.ErrSyntax},
	{"[1, 2;", 5, api.ErrSyntax},
	{"f(1,);", 4, api.ErrSyntax},
	{"();", 1, api.ErrSyntax},
	{";", 0, api.ErrSyntax},
	{"let a = # b\n1;", 8, api.ErrSyntax},
	{"[1,2,3,4,5,6,7];", 0, api.ErrRange},
	{"a; f(1,2,3,4,5,6,7);", 0, api.ErrRange},
	{"a; # " + strings.Repeat("a", api.MaxWord+1), 0, api.ErrSyntax},
	{"a; # " + strings.Repeat("a ", api.MaxWords+1), 0, api.ErrFull},
	{"a; " + strings.Repeat("# a\n", api.MaxWords+1), 0, api.ErrFull},
	{strings.Repeat("a;", api.MaxLines+1), 0, api.ErrFull},
	{strings.Repeat("a;\n", api.MaxLines+1), 0, api.ErrFull},
	{strings.Repeat("[", 39) + "1" + strings.Repeat("]", 39) + ";", 0, api.ErrFull},
	{"1" + strings.Repeat("+1", 20) + ";", 0, api.ErrFull},
	{strings.Repeat("(", 150) + "1" + strings.Repeat(")", 150) + ";", 0, api.ErrFull},
	{strings.Repeat(" ", api.MaxText+1), 0, api.ErrFull},
	{strings.Repeat("A", api.MaxText+1), 0, api.ErrFull},
}

// TestCannotBeRead: the place and the error are Format's.
func TestCannotBeRead(t *testing.T) {
	for _, b := range broken {
		for _, width := range someWidths {
			if _, place, err := page.Format(b.text, width); place != b.place || plain.Told(err) != b.want {
				t.Errorf("%.100q: Format %d, %v", b.text, place, err)
			}
			refuses(t, b.text, width, b.place, b.want)
		}
	}
}

// TestWrongWidths: a width is told ahead of what is wrong with a text.
func TestWrongWidths(t *testing.T) {
	for _, width := range wrongWidths {
		for _, text := range programs {
			refuses(t, text, width, 0, api.ErrRange)
		}
		for _, b := range broken {
			refuses(t, b.text, width, 0, api.ErrRange)
		}
	}
	for width := -300; width <= 300; width++ {
		if width >= 10 && width <= 100 {
			is(t, "a;\nb;\n", width, -1)
		} else {
			refuses(t, "a;\nb;\n", width, 0, api.ErrRange)
		}
	}
}

// groups are texts that have the same statements; those of one have not those of another.
var groups = [][]string{
	{"", " ", "\n", "  \n\n \n", strings.Repeat(" \n", api.MaxText/2)},
	{"a;", "(a);", "((a));", "( ( (a) ) ) ;", "\n\na\n\n;\n"},
	{"a;a;", "a;\na;\n", "(a);((a)) ;"},
	{"a;b;", "a;\n\n\nb;", " a ; ( b ) ; "},
	{"b;a;", "b;\n(a);"},
	{"let a=1+2;", "let a=(1+2);", "let a=((1)+(2));", "let a =\n  1\n    + 2;\n"},
	{"let a=2+1;", "let\na\n=\n(2)+(1)\n;"},
	{"a+b+c;", "(a+b)+c;", "((a)+b)+c;", "((a+b)+c);"},
	{"a+(b+c);", "a+((b+c));", "(a)+(b+(c));"},
	{"a*b*c;", "(a*b)*c;", "((a*b)*(c));"},
	{"a*(b*c);", "(a*((b*c)));"},
	{"a+b*c;", "a+(b*c);", "(a)+((b)*(c));"},
	{"(a+b)*c;", "((a+b))*(c);", "(((a)+b)*c);"},
	{"f(a,[b]);", "f((a),[(b)]);", "(f((a),([b])));", "f(\n  a,\n  [\n    b\n  ]\n);"},
	{"# so it is and so it was", "#so it is and so it was", "#  so   it is and so  it was   ", "# so it\n# is and so it was", "#so\n#it\n#is\n\n  #and\n#so\n#it\n#was\n#\n", "#\n#\n# so it is and so it was"},
	{"# so it is and so it were", "#so it is and\n# so it were"},
	{"# so it is and so itwas", "#so\n#it is and\n# so itwas"},
	{"#", "#   ", "#\n#", "\n\n #\n  #\n"},
	{"##", "# #", "#\n##"},
	{"# a\n1;# b", "#a\n(1);\n#\n#b"},
	{"# a\n# b\n1;", "# a b\n1;"},
	{"1;# a b", "1;#a\n#b"},
	{"#a;", "# a;"},
}

func TestSame(t *testing.T) {
	for i, group := range groups {
		for j, other := range groups {
			for _, a := range group {
				for _, b := range other {
					told(t, a, b, i == j)
				}
			}
		}
	}
}

// alike are statements that differ from one another, though little.
var alike = []string{
	"a;", "aa;", "b;", "a();", "[a];", "[[a]];", "[];", "[[]];", "[a,a];", "[a,[a]];", "[[a],a];", "a(a);", "a(a,a);", "a([a,a]);", "f(a);",
	"let a=a;", "let a=b;", "let b=a;", "let aa=a;", "let a=a();", "let lets=a;", "lets;",
	"0;", "1;", "10;", "11;", "1+0;", "1*0;", "0+1;", "let a=1;", "let a=10;", "[1];", "[1,0];", "[10];",
	"a+a;", "a*a;", "a+a+a;", "a+(a+a);", "a*a*a;", "a*(a*a);", "a+a*a;", "a*a+a;", "(a+a)*a;", "a*(a+a);", "[a+a];", "a(a+a);",
	"#", "# a", "# a a", "# aa", "# a;", "#;", "# let a = a;", "# let a=a;", "# 1;", "##", "# # a", "# A", "# (a);", "# a();",
}

func TestAlike(t *testing.T) {
	for i, a := range alike {
		for j, b := range alike {
			told(t, a, b, i == j)
			// Ahead of it and behind it all is the same.
			told(t, "x;"+a+"\ny;", "x;"+b+"\ny;", i == j)
		}
	}
}

// TestOrder: as many statements, and in the same order.
func TestOrder(t *testing.T) {
	told(t, "a;b;c;", "a;b;c;", true)
	for _, other := range []string{"", "a;", "a;b;", "b;c;", "a;c;", "a;c;b;", "b;a;c;", "c;b;a;", "a;b;c;c;", "a;a;b;c;", "a;b;c;a;", "a;b;c;d;", "a;b;c;#", "#\na;b;c;", "a;#\nb;c;", "[a,b,c];"} {
		told(t, "a;b;c;", other, false)
	}
	for n := range api.MaxLines + 1 {
		for m := range api.MaxLines + 1 {
			told(t, strings.Repeat("a;", n), strings.Repeat("a;\n", m), n == m)
		}
	}
	told(t, "#a\n1;#b\n2;", "#b\n1;#a\n2;", false)
	told(t, "#a\n1;#b\n2;", "#a b\n1;2;", false)
	told(t, "#a b\n", "#b a\n", false)
	told(t, "#a b\n", "#a\n", false)
	told(t, "#a b\n", "#a b b\n", false)
}

// TestSameAsItself: a text and itself, what Format makes of it, and what is printed of it.
func TestSameAsItself(t *testing.T) {
	for _, text := range programs {
		told(t, text, text, true)
		p, _, err := syn.Parse(text)
		if err != nil {
			t.Fatal(err)
		}
		line, err := syn.Print(p)
		if err != nil {
			t.Fatal(err)
		}
		told(t, text, line, true)
		for _, width := range someWidths {
			told(t, text, made(t, text, width), true)
			told(t, line, made(t, text, width), true)
		}
		for _, other := range programs {
			told(t, made(t, text, 10), other, text == other)
		}
	}
}

// TestSameCannotBeRead: what is wrong with the first text is told ahead of what is wrong with the second one.
func TestSameCannotBeRead(t *testing.T) {
	for _, b := range broken {
		for _, text := range programs {
			refusesBoth(t, b.text, text, b.want)
			refusesBoth(t, text, b.text, b.want)
		}
		for _, other := range broken {
			refusesBoth(t, b.text, other.text, b.want)
		}
	}
}

// spread writes words of a program with blanks and new lines that nobody needs, or none, between them.
func spread(r *rand.Rand, words []string) string {
	var b strings.Builder
	for i, word := range words {
		switch {
		case i > 0 && strings.HasPrefix(words[i-1], "#"):
			b.WriteString([]string{"\n", "\n\n", "  \n ", "\n#\n"}[r.Intn(4)])
		case i > 0 && isLong(words[i-1]) && isLong(word):
			b.WriteString([]string{" ", "\n", "  "}[r.Intn(3)])
		default:
			b.WriteString([]string{"", "", " ", "\n", " \n  "}[r.Intn(5)])
		}
		b.WriteString(word)
	}
	b.WriteString([]string{"", "\n", " ", "\n\n"}[r.Intn(4)])
	return b.String()
}

// isLong tells whether a word is a name or a number, two of which need something between them.
func isLong(word string) bool {
	return strings.Trim(word, "abcdefghijklmnopqrstuvwxyz0123456789") == ""
}

// expression gives the words of some expression, and the same with brackets that nobody needs.
func expression(r *rand.Rand, deep int) (bare, loose []string) {
	kid := func() {
		a, b := expression(r, deep-1)
		bare, loose = append(bare, a...), append(loose, b...)
	}
	put := func(words ...string) { bare, loose = append(bare, words...), append(loose, words...) }
	switch k := r.Intn(6); {
	case deep == 0 || k == 0:
		put([]string{"a", "bc", "price", "0", "7", "123456"}[r.Intn(6)])
	case k < 3:
		open, end := []string{"["}, "]"
		if k == 1 {
			open, end = []string{"sum", "("}, ")"
		}
		put(open...)
		for i := range r.Intn(4) {
			if i > 0 {
				put(",")
			}
			kid()
		}
		put(end)
	default:
		// With brackets about it, it is one thing wherever it stands.
		put("(")
		kid()
		put([]string{"+", "*"}[r.Intn(2)])
		kid()
		put(")")
	}
	if r.Intn(3) == 0 {
		loose = slices.Concat([]string{"("}, loose, []string{")"})
	}
	return bare, loose
}

// program gives the words of some program, twice: the second time with more brackets, and with notes cut in two.
func program(r *rand.Rand) (bare, loose []string) {
	for range r.Intn(6) {
		if r.Intn(3) == 0 {
			said := slices.Repeat([]string{"so", "it", "is;"}, r.Intn(5))
			cut := r.Intn(len(said) + 1)
			bare = append(bare, "# "+strings.Join(said, " "))
			loose = append(loose, "#"+strings.Join(said[:cut], "  "), "# "+strings.Join(said[cut:], " "))
		}
		if r.Intn(2) == 0 {
			bare, loose = append(bare, "let", "xy", "="), append(loose, "let", "xy", "=")
		}
		a, b := expression(r, r.Intn(4))
		bare, loose = slices.Concat(bare, a, []string{";"}), slices.Concat(loose, b, []string{";"})
	}
	return bare, loose
}

// TestSome: programs of all sorts, written in two ways; Check against the model of it, Same against one word that is another one.
func TestSome(t *testing.T) {
	r := rand.New(rand.NewSource(13))
	seen := map[string]int{}
	for range 4000 {
		bare, loose := program(r)
		first, second := spread(r, bare), spread(r, loose)
		if _, _, err := syn.Parse(second); err != nil {
			seen["too much"]++
			continue
		}
		told(t, first, second, true)
		width := 10 + r.Intn(1+r.Intn(91))
		out := made(t, first, width)
		for _, text := range []string{first, second, out, made(t, second, 10+r.Intn(91)), out + "\n"} {
			want := modelled(text, out)
			is(t, text, width, want)
			seen[fmt.Sprint(min(want, 3))]++
		}
		other := otherWord(r, bare)
		if _, _, err := syn.Parse(spread(r, other)); err == nil && !slices.Equal(bare, other) {
			told(t, spread(r, other), second, false)
			seen["other"]++
		}
	}
	for _, kind := range []string{"-1", "0", "1", "2", "3", "other"} {
		if seen[kind] < 100 {
			t.Errorf("only %d of %q", seen[kind], kind)
		}
	}
	if seen["too much"] > 1000 {
		t.Errorf("%d are too much", seen["too much"])
	}
}

// otherWord puts another name, number or sign, or another word of a note, in place of one.
func otherWord(r *rand.Rand, words []string) []string {
	if len(words) == 0 {
		return words
	}
	words = slices.Clone(words)
	i := r.Intn(len(words))
	switch word := words[i]; {
	case strings.HasPrefix(word, "#"):
		words[i] += " so"
	case word == "+":
		words[i] = "*"
	case word == "*":
		words[i] = "+"
	case isLong(word) && word != "let" && word != "sum":
		words[i] = "z"
	}
	return words
}

// TestAnyText: texts of words and bytes of all sorts, against Format and against what their words are.
func TestAnyText(t *testing.T) {
	r := rand.New(rand.NewSource(14))
	bits := []string{"let ", "a", "bc", "1", "0", "(", ")", "[", "]", ",", "+", "*", "=", ";", ";", "a;", "b;\n", "# b\n", "#\n", " ", "\n", "A", "\t", "\x00", "\xff"}
	right, ahead := 0, ""
	for range 60000 {
		text := ""
		some := bits[:len(bits)-4*r.Intn(2)]
		for range 1 + r.Intn(8) {
			text += some[r.Intn(len(some))]
		}
		out, place, err := page.Format(text, 10)
		if err != nil {
			refuses(t, text, 10, place, plain.Told(err))
			refusesBoth(t, text, ahead, plain.Told(err))
			refusesBoth(t, ahead, text, plain.Told(err))
			continue
		}
		right++
		is(t, text, 10, modelled(text, out))
		told(t, text, ahead, sameWords(t, out, made(t, ahead, 10)))
		ahead = text
	}
	if right < 500 {
		t.Errorf("only %d right", right)
	}
}

// sameWords tells whether two texts that Format made have the same words.
func sameWords(t *testing.T, a, b string) bool {
	t.Helper()
	first, _, _, err := lex.Words(a)
	if err != nil {
		t.Fatal(err)
	}
	second, _, _, err := lex.Words(b)
	if err != nil {
		t.Fatal(err)
	}
	return slices.Equal(first, second)
}

// TestCommon: of texts that need not be programs.
func TestCommon(t *testing.T) {
	r := rand.New(rand.NewSource(15))
	for range 20000 {
		a, b := bytesOf(r), bytesOf(r)
		if a != b && common(a, b) != modelled(a, b) {
			t.Errorf("%q, %q: %d, want %d", a, b, common(a, b), modelled(a, b))
		}
	}
}

// bytesOf gives some of the bytes 10 and a.
func bytesOf(r *rand.Rand) string {
	b := make([]byte, r.Intn(6))
	for i := range b {
		b[i] = "\na"[r.Intn(2)]
	}
	return string(b)
}

// TestSoon: great texts take little time.
func TestSoon(t *testing.T) {
	start := time.Now()
	refuses(t, strings.Repeat("(", 1<<24), 10, 0, api.ErrFull)
	refuses(t, strings.Repeat("(", api.MaxText), 10, 0, api.ErrFull)
	refusesBoth(t, "", strings.Repeat("\n", 1<<24), api.ErrFull)
	is(t, strings.Repeat("\n", api.MaxText-2)+"a;", 10, 0)
	is(t, "a;\n"+strings.Repeat("\n", api.MaxText-3), 10, 2)
	told(t, strings.Repeat("\n", api.MaxText-2)+"a;", "a;", true)
	if took := time.Since(start); took > 10*time.Second {
		t.Errorf("%v", took)
	}
}
