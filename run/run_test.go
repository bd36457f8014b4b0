package run

import (
	"errors"
	"fmt"
	"math/rand"
	"regexp"
	"slices"
	"strconv"
	"strings"
	"sync"
	"testing"
	"time"
	"unsafe"

	"pargetry/api"
	"pargetry/page"
	"pargetry/syn"
)

// The face as it is given.
var _ func(string) string = Run

// ended puts lines together, each with byte 10 behind it.
func ended(lines ...string) string {
	all := ""
	for _, line := range lines {
		all += line + "\n"
	}
	return all
}

// gives asks that just these lines answer a text, whenever it is run.
func gives(t *testing.T, text string, want ...string) {
	t.Helper()
	for range 2 {
		if got := Run(text); got != ended(want...) {
			t.Fatalf("%.300q:\n got %.300q\nwant %.300q", text, got, ended(want...))
		}
	}
}

// talk is lines, and all that answers them.
type talk struct {
	*testing.T
	asked, told []string
}

// says asks that a line that follows the others is answered by these lines.
func (k *talk) says(line string, want ...string) {
	k.Helper()
	k.asked, k.told = append(k.asked, line), append(k.told, want...)
	gives(k.T, ended(k.asked...), k.told...)
}

// adds puts lines behind the text.
func (k *talk) adds(lines ...string) {
	k.Helper()
	for _, line := range lines {
		k.says("+"+line, "ok")
	}
}

// has puts lines in place of the text.
func (k *talk) has(lines ...string) {
	k.Helper()
	k.says("drop", "ok")
	k.adds(lines...)
}

// sets asks how many of the statements of lines are new.
func (k *talk) sets(want int, lines ...string) {
	k.Helper()
	k.has(lines...)
	k.says("set", strconv.Itoa(want))
}

// shows asks that the desk has just these lines.
func (k *talk) shows(lines ...string) {
	k.Helper()
	var want []string
	for _, line := range lines {
		want = append(want, "|"+line)
	}
	k.says("text", append(want, "ok")...)
}

// model answers lines by other roads than a session does: there is no desk, all is made of the text that was set last.
type model struct {
	text, set string
	width     int
}

var wide = regexp.MustCompile(`^wide (0|[1-9][0-9]{0,3})$`)

// modelled gives what a text is answered by.
func modelled(t *testing.T, text string) string {
	t.Helper()
	if len(text) > 3000 {
		return "too long\n"
	}
	pieces := strings.Split(text, "\n")
	if pieces[len(pieces)-1] == "" {
		pieces = pieces[:len(pieces)-1]
	}
	m := model{width: 40}
	all := ""
	for _, line := range pieces {
		all += m.answer(t, line)
	}
	return all
}

func (m *model) answer(t *testing.T, line string) string {
	t.Helper()
	switch {
	case line != "" && line[0] == '+':
		m.text += line[1:] + "\n"
		return "ok\n"
	case wide.MatchString(line):
		n, err := strconv.Atoi(wide.FindStringSubmatch(line)[1])
		if err != nil {
			t.Fatal(err)
		}
		if n < 10 || n > 100 {
			return "ErrRange\n"
		}
		m.width = n
		return "ok\n"
	case line == "text":
		out, _, err := page.Format(m.set, m.width)
		if err != nil {
			t.Fatal(err)
		}
		return strings.ReplaceAll("\n"+out, "\n", "\n|")[1:len(out)+strings.Count(out, "\n")+1] + "ok\n"
	case line == "drop":
		m.text = ""
		return "ok\n"
	case line != "set" && line != "look":
		return "bad\n"
	}
	out, place, err := page.Format(m.text, m.width)
	if errors.Is(err, api.ErrSyntax) {
		return fmt.Sprintf("ErrSyntax %d\n", place)
	}
	if err != nil {
		return err.Error() + "\n"
	}
	n := firstOther(m.text, out)
	if line == "set" {
		n, m.set = fresh(t, m.set, m.text), m.text
	}
	return fmt.Sprintln(n)
}

// firstOther gives the number of the first line in which two texts differ, -1 if they do not.
func firstOther(a, b string) int {
	if a == b {
		return -1
	}
	as, bs := strings.Split(a, "\n"), strings.Split(b, "\n")
	n := 0
	for n < min(len(as), len(bs)) && as[n] == bs[n] {
		n++
	}
	return n
}

// fresh tells how many statements of a text are not among those of the one ahead of it.
func fresh(t *testing.T, ahead, text string) int {
	t.Helper()
	n := 0
	p := statements(t, text)
	for i, s := range p {
		if !slices.Contains(statements(t, ahead), s) && !slices.Contains(p[:i], s) {
			n++
		}
	}
	return n
}

// statements gives those of a text that can be read, each as the nodes it has.
func statements(t *testing.T, text string) []string {
	t.Helper()
	p, _, err := syn.Parse(text)
	if err != nil {
		t.Fatal(err)
	}
	var all []string
	for _, s := range p {
		all = append(all, fmt.Sprintf("%#v", s))
	}
	return all
}

func TestExample(t *testing.T) {
	gives(t, "+let a=1;\nset\ntext\nlook\nwide 9\n+b\nset\nfly\n", "ok", "1", "|let a = 1;", "ok", "0", "ErrRange", "ok", "ErrSyntax 11", "bad")
	// That of README.md.
	gives(t, "+let x=1+f(a);\nset\nwide 12\ntext\nlook\n+b\nset\nfly", "ok", "1", "ok", "|let x =", "|  1 + f(a);", "ok", "0", "ok", "ErrSyntax 16", "bad")
}

func TestEmpty(t *testing.T) { gives(t, "") }

// TestTooLong: as many bytes as there may be, and one more.
func TestTooLong(t *testing.T) {
	for _, line := range []string{"+\n", "+a;\n", "set\n", "text\n", "look\n", "drop\n", "wide 10\n", "wide 9\n", "fly\n", "\n", "\x00", "a", "é", " ", "+"} {
		all := strings.Repeat(line, api.MaxRun)
		most := all[:api.MaxRun]
		if got := Run(most); got == "too long\n" || got != modelled(t, most) {
			t.Errorf("%q: %.300q", line, got)
		}
		for _, more := range []string{"\n", "a", " ", "\x00", "\nset\n", all} {
			gives(t, most+more, "too long")
			gives(t, more+most, "too long")
		}
	}
	gives(t, "+"+strings.Repeat("a", api.MaxRun-1), "ok")
	gives(t, "+"+strings.Repeat("a", api.MaxRun), "too long")
	gives(t, "+"+strings.Repeat("a", api.MaxRun-2)+"\n", "ok")
	gives(t, "+"+strings.Repeat("a", api.MaxRun-1)+"\n", "too long")
	gives(t, "+"+strings.Repeat(" ", api.MaxRun-6)+"\nset\n", "ok", "0")
	gives(t, "+"+strings.Repeat(" ", api.MaxRun-5)+"\nset\n", "too long")
	gives(t, strings.Repeat("\n", api.MaxRun), slices.Repeat([]string{"bad"}, api.MaxRun)...)
	gives(t, strings.Repeat("\n", api.MaxRun+1), "too long")
	for _, n := range []int{1, 2, 1000, api.MaxText, 1 << 24} {
		gives(t, strings.Repeat("a", api.MaxRun+n), "too long")
		gives(t, ended("+a;", "set")+strings.Repeat("text\n", api.MaxRun/5+n), "too long")
	}
	// They are bytes, not letters.
	gives(t, strings.Repeat("é", api.MaxRun/2), "bad")
	gives(t, strings.Repeat("é", api.MaxRun/2)+"\n", "too long")
}

// lone are lines, and what answers each where nothing is ahead of it.
var lone = []struct{ line, want string }{
	{"+", "ok"},
	{"+a;", "ok"},
	{"+ set", "ok"},
	{"set", "0"},
	{"wide 10", "ok"},
	{"wide 9", "ErrRange"},
	{"text", "ok"},
	{"look", "-1"},
	{"drop", "ok"},
	{"fly", "bad"},
}

// TestAlone: each line alone, and behind lines that leave all as it is; where a text is cut, and what is no line.
func TestAlone(t *testing.T) {
	for _, c := range lone {
		gives(t, c.line, c.want)
		gives(t, c.line+"\n", c.want)
		gives(t, c.line+"\n\n", c.want, "bad")
		gives(t, c.line+"\n\n\n", c.want, "bad", "bad")
		gives(t, "\n"+c.line, "bad", c.want)
		gives(t, "\n\n"+c.line+"\n", "bad", "bad", c.want)
		gives(t, c.line+"\n\ndrop", c.want, "bad", "ok")
		gives(t, c.line+"\n\n\ndrop\n\n", c.want, "bad", "bad", "ok", "bad")
		gives(t, "\r\n"+c.line, "bad", c.want)
		gives(t, c.line+"\n\r", c.want, "bad")
		for _, ahead := range []string{"drop", "set", "text", "wide 40", "bad", "", "wide 0", "look"} {
			gives(t, ahead+"\n"+c.line+"\n", strings.TrimSuffix(Run(ahead+"\n"), "\n"), c.want)
		}
	}
	gives(t, "\n", "bad")
	gives(t, "\n\n", "bad", "bad")
	gives(t, " ", "bad")
	gives(t, " \n ", "bad", "bad")
	gives(t, "\r", "bad")
}

// TestByte13: it ends no line.
func TestByte13(t *testing.T) {
	for _, c := range lone {
		want := "bad"
		if strings.HasPrefix(c.line, "+") {
			want = "ok"
		}
		gives(t, c.line+"\r", want)
		gives(t, c.line+"\r\n", want)
		gives(t, c.line+"\r\ndrop\n", want, "ok")
		gives(t, c.line+"\rdrop\n", want)
		gives(t, "\r"+c.line+"\n", "bad")
	}
	gives(t, "+a;\r\nset\nlook\ntext\n", "ok", "ErrSyntax 2", "ErrSyntax 2", "ok")
	gives(t, "+a;# a\rb\nset\n", "ok", "ErrSyntax 2")
	gives(t, "+a;\rset", "ok")
}

// TestAdd: what is put behind the text, told by how it is read.
func TestAdd(t *testing.T) {
	k := &talk{T: t}
	k.says("+", "ok")
	k.says("look", "1")
	k.says("set", "0")
	k.adds("", "")
	// Each put a byte 10 behind the text.
	k.adds(")")
	k.says("set", "ErrSyntax 3")
	k.has("  ", ")")
	k.says("set", "ErrSyntax 3")
	k.has("  ")
	k.says("look", "0")
	k.says("set", "0")
	k.has("  a ;  ")
	k.says("look", "0")
	k.says("set", "1")
	k.shows("a;")
	// What is begun may be ended by another line, but for a word.
	k.has("let a =", "f(1,", "", "2)")
	k.says("set", "ErrSyntax 17")
	k.shows("a;")
	k.adds(";b;")
	k.says("set", "2")
	k.shows("let a = f(1, 2);", "b;")
	k.has("ab", "cd;")
	k.says("look", "ErrSyntax 3")
	k.has("# a", "b;", "# c", "#d")
	k.says("set", "2")
	k.shows("# a", "b;", "# c d")
	// Lines of a text are no lines of the session.
	k.has("set", "text", "look", "drop", "wide 10", "fly")
	k.says("set", "ErrSyntax 4")
	k.shows("# a", "b;", "# c d")
	k.has("+a;")
	k.says("set", "ErrSyntax 0")
	k.has("text;", "set*drop;")
	k.says("set", "2")
	k.shows("text;", "set * drop;")
	k.has("|a;")
	k.says("look", "ErrSyntax 0")
}

// TestAddBytes: all bytes may stand in a line of the text, and are read with it.
func TestAddBytes(t *testing.T) {
	for b := range 256 {
		one := string([]byte{byte(b)})
		want := "ErrSyntax 2"
		switch {
		case one == "\n":
			continue
		case one == " ":
			want = "1"
		case one == "#":
			want = "2"
		case strings.Contains("abcdefghijklmnopqrstuvwxyz0123456789([", one):
			// A statement begins there, and is not ended.
			want = "ErrSyntax 4"
		}
		gives(t, "+a;"+one+"\nset\n", "ok", want)
		gives(t, "+"+one+"\ndrop\nset\n", "ok", "ok", "0")
		if one != "+" {
			gives(t, one+"+a;\nset\n", "bad", "0")
		}
	}
}

func TestSet(t *testing.T) {
	k := &talk{T: t}
	k.says("set", "0")
	k.shows()
	k.sets(2, "a;b;a;")
	k.shows("a;", "b;", "a;")
	k.says("set", "0")
	k.says("set", "0")
	k.sets(0, "(a);", "b;", "", "((a))", ";")
	k.shows("a;", "b;", "a;")
	k.adds("c;")
	k.says("set", "1")
	k.shows("a;", "b;", "a;", "c;")
	k.adds("c;c;")
	k.says("set", "0")
	k.shows("a;", "b;", "a;", "c;", "c;", "c;")
	// Only the program that stands there counts, not those ahead of it.
	k.sets(0, "b;")
	k.sets(2, "a;b;c;")
	k.sets(1, "# b", "# c", "b;")
	k.shows("# b c", "b;")
	k.sets(0, "# b c", "b;")
	k.sets(2, "# b", "let b=1;")
	k.sets(0)
	k.shows()
	k.sets(2, "# b", "let b=1;")
	k.sets(0, " ", "")
	k.shows()
	k.sets(1, strings.Repeat("ab+c;", api.MaxLines))
	k.sets(api.MaxLines, "1;2;3;4;5;6;7;8;9;10;11;12;13;14;15;16;17;18;19;20;")
	// To put together, to drop, to look: nothing of that is on the desk.
	k.has("a;")
	k.says("look", "-1")
	k.shows("1;", "2;", "3;", "4;", "5;", "6;", "7;", "8;", "9;", "10;", "11;", "12;", "13;", "14;", "15;", "16;", "17;", "18;", "19;", "20;")
	k.says("set", "1")
	k.shows("a;")
}

// broken are texts that cannot be read, and what is told of them.
var broken = []struct {
	lines []string
	want  string
}{
	{[]string{"A"}, "ErrSyntax 0"},
	{[]string{"a; A"}, "ErrSyntax 3"},
	{[]string{"a;", "b;", "\x00"}, "ErrSyntax 6"},
	{[]string{"a;", "\tb;"}, "ErrSyntax 3"},
	{[]string{"abcdefghi;"}, "ErrSyntax 0"},
	{[]string{"a + 012;"}, "ErrSyntax 4"},
	{[]string{"a;", "# é"}, "ErrSyntax 3"},
	{[]string{"a b"}, "ErrSyntax 2"},
	{[]string{"a + ;"}, "ErrSyntax 4"},
	{[]string{"let let = 1;"}, "ErrSyntax 4"},
	// It ends too early: byte 10 is one of its bytes.
	{[]string{"a"}, "ErrSyntax 2"},
	{[]string{"a;", "b;", "a "}, "ErrSyntax 9"},
	{[]string{"let"}, "ErrSyntax 4"},
	{[]string{"[1, 2", ""}, "ErrSyntax 7"},
	{[]string{"();"}, "ErrSyntax 1"},
	{[]string{"", "", ";"}, "ErrSyntax 2"},
	{[]string{strings.Repeat(" ", 1000) + ";"}, "ErrSyntax 1000"},
	// A word of a note that is too long has no place of its own.
	{[]string{"a;", "# " + strings.Repeat("a", api.MaxWord+1)}, "ErrSyntax 0"},
	{[]string{"[1,2,3,4,5,6,7];"}, "ErrRange"},
	{[]string{"a;", "f(1,2,3,4,5,6,7);"}, "ErrRange"},
	{[]string{"# " + strings.Repeat("a ", api.MaxWords+1)}, "ErrFull"},
	{[]string{strings.Repeat("a;", api.MaxLines+1)}, "ErrFull"},
	{[]string{"1" + strings.Repeat("+1", 20) + ";"}, "ErrFull"},
	{[]string{strings.Repeat("(", 150) + "1" + strings.Repeat(")", 150) + ";"}, "ErrFull"},
}

// TestCannotBeRead: the error's name, and the place if it is ErrSyntax; text and desk stay as they were.
func TestCannotBeRead(t *testing.T) {
	for _, b := range broken {
		k := &talk{T: t}
		k.adds(b.lines...)
		k.says("set", b.want)
		k.says("look", b.want)
		k.shows()
		k.sets(2, "let a=f(b,[12]);c;")
		k.says("wide 13", "ok")
		k.has(b.lines...)
		for range 2 {
			k.says("look", b.want)
			k.says("set", b.want)
			k.shows("let a =", "  f(b, [12]);", "c;")
		}
		k.says("wide 40", "ok")
		k.shows("let a = f(b, [12]);", "c;")
		k.says("look", b.want)
		// What is set next is counted against what the desk still has.
		k.sets(1, "c;d;")
	}
	k := &talk{T: t}
	k.sets(1, "a;")
	k.has("b;c;d")
	k.says("set", "ErrSyntax 6")
	k.adds(";")
	k.says("set", "3")
}

// TestWide: of each number, and what the desk has behind it.
func TestWide(t *testing.T) {
	k := &talk{T: t}
	at40, at10, at13 := []string{"let a = f(b, [12]);", "# b c d e f"}, []string{"let a =", "  f(", "    b,", "    [12]", "  );", "# b c d e", "# f"}, []string{"let a =", "  f(b, [12]);", "# b c d e f"}
	k.sets(2, "let a=f(b,[12]);# b c d e f")
	k.shows(at40...)
	k.says("wide 10", "ok")
	k.shows(at10...)
	// Another width makes no statement new.
	k.says("set", "0")
	k.shows(at10...)
	k.says("wide 100", "ok")
	k.shows(at40...)
	k.says("wide 13", "ok")
	k.shows(at13...)
	for _, n := range []string{"9", "101", "0", "9999", "1", "8", "99999"[:4], "102", "999", "1000", "1300", "4096", "5"} {
		k.says("wide "+n, "ErrRange")
	}
	k.shows(at13...)
	for _, n := range []string{
		"", " ", "10000", "99999", "10010", "100000", "010", "0010", "00010", "013", "00", "09", "0101", "00000", "000000040",
		"-1", "-10", "+10", "-0", "+0", "--10", "- 10", "+", "-", " 10", "10 ", "  10", "1 0", "10\r", "10\t", "\t10", "10\x00", "10.", "10.0", ".5", "1e1", "1e2", "0x10", "0x1", "0b11", "0o12", "1_0", "1_00",
		"a", "ten", "N", "10a", "a10", "10 10", "10,", "１０", "٤٠", "10é", "\xff", "10\xff", "4294967306", "18446744073709551626", "18446744073709551656", "9223372036854775807", "9223372036854775808", "-9223372036854775808",
		strings.Repeat("9", 100), strings.Repeat("0", 100) + "40",
	} {
		gives(t, "wide "+n, "bad")
		gives(t, ended("+let a=f(b,[12]);# b c d e f", "set", "wide 13", "wide "+n, "text"), "ok", "2", "ok", "bad", "|let a =", "|  f(b, [12]);", "|# b c d e f", "ok")
	}
	for _, line := range []string{"wide", "wide\t10", "wide10", "Wide 10", "WIDE 10", " wide 10", "wide: 10", "wides 10", "wide=10", "wide(10)", "\twide 10", "wid 10", "wide\u00a010", "text wide 10", "10", "+ wide 10"[1:]} {
		k.says(line, "bad")
	}
	k.shows(at13...)
	// The text that is looked at is held against the new width.
	k.has(at13...)
	k.says("look", "-1")
	k.says("wide 10", "ok")
	k.says("look", "1")
	k.says("wide 101", "ErrRange")
	k.says("look", "1")
	k.says("wide 40", "ok")
	k.says("look", "0")
	k.has(at10...)
	k.says("look", "0")
	k.says("wide 10", "ok")
	k.says("look", "-1")
}

// TestNumbers: all of up to five digits, and those with a needless 0.
func TestNumbers(t *testing.T) {
	for n := range 100000 {
		want := "ok\n"
		if n > 9999 {
			want = "bad\n"
		} else if n < 10 || n > 100 {
			want = "ErrRange\n"
		}
		if got := Run(fmt.Sprintf("wide %d", n)); got != want {
			t.Fatalf("%d: %q", n, got)
		}
		if got := Run(fmt.Sprintf("wide 0%d\nwide -%d\nwide +%d", n, n, n)); got != "bad\nbad\nbad\n" {
			t.Fatalf("%d: %q", n, got)
		}
	}
}

// TestWidths: at each width the desk has what is made of its text at that width, and that is what is looked for.
func TestWidths(t *testing.T) {
	text := "# of all the ways that there are the one that costs least\nlet total=add(price*(count+1),[tax,12,fee(count)],rest)*2;\n#\nprint(total,[1,2,3]+[]);\n"
	for width := 10; width <= api.MaxWidth; width++ {
		out, _, err := page.Format(text, width)
		if err != nil {
			t.Fatal(err)
		}
		lines := strings.Split(strings.TrimSuffix(out, "\n"), "\n")
		k := &talk{T: t}
		k.adds(strings.Split(text, "\n")...)
		k.says("set", "4")
		k.says(fmt.Sprintf("wide %d", width), "ok")
		k.shows(lines...)
		k.has(lines...)
		k.says("look", "-1")
		k.says("set", "0")
		k.says("wide 200", "ErrRange")
		k.shows(lines...)
	}
}

// TestFirstWidth: it is 40, ahead of all lines.
func TestFirstWidth(t *testing.T) {
	fits, longer := "abcdefgh + abcdefgh + abcdefgh + abcdef;", "abcdefgh + abcdefgh + abcdefgh + abcdefg;"
	gives(t, ended("+"+fits, "set", "text", "look"), "ok", "1", "|"+fits, "ok", "-1")
	gives(t, ended("+"+longer, "set", "text", "look"), "ok", "1", "|abcdefgh + abcdefgh + abcdefgh", "|  + abcdefg;", "ok", "0")
	gives(t, ended("wide 41", "+"+longer, "set", "text", "look"), "ok", "ok", "1", "|"+longer, "ok", "-1")
	gives(t, ended("wide 39", "+"+fits, "set", "text", "look"), "ok", "ok", "1", "|abcdefgh + abcdefgh + abcdefgh", "|  + abcdef;", "ok", "0")
}

func TestText(t *testing.T) {
	k := &talk{T: t}
	k.shows()
	// The text that is put together is not the desk's.
	k.adds("a;")
	k.shows()
	k.says("set", "1")
	k.shows("a;")
	k.shows("a;")
	k.says("drop", "ok")
	k.shows("a;")
	k.sets(5, "#", "a;", "# so|it", "[];# # #", "let ok=bad();")
	k.shows("#", "a;", "# so|it", "[];", "# # #", "let ok = bad();")
	k.sets(0)
	k.shows()
}

func TestLook(t *testing.T) {
	k := &talk{T: t}
	k.says("look", "-1")
	k.adds("a;")
	k.says("look", "-1")
	k.adds("b ;")
	k.says("look", "1")
	k.adds("c;")
	k.says("look", "1")
	k.has("a;", "", "b;")
	k.says("look", "1")
	k.has("", "a;")
	k.says("look", "0")
	k.has("a;", "b;", "# c", "let a =", "  1;")
	k.says("look", "3")
	// What stands behind the last byte 10 is a line too.
	k.has("a;", "")
	k.says("look", "2")
	k.has("a;", "b;", "", "")
	k.says("look", "3")
	k.has("")
	k.says("look", "1")
	k.has(" ")
	k.says("look", "0")
	k.has("(a);", "b;")
	k.says("look", "0")
	k.has("# a", "# b")
	k.says("look", "0")
	// Nothing of all that was set.
	k.shows()
	k.sets(1, "a;")
	k.says("look", "-1")
	k.has("a")
	k.says("look", "ErrSyntax 2")
	k.shows("a;")
}

func TestDrop(t *testing.T) {
	k := &talk{T: t}
	k.says("drop", "ok")
	k.says("look", "-1")
	k.says("set", "0")
	k.adds("a;", "b")
	k.says("drop", "ok")
	k.says("drop", "ok")
	k.says("look", "-1")
	k.says("set", "0")
	k.shows()
	k.adds("c;")
	k.says("look", "-1")
	k.says("set", "1")
	k.says("wide 10", "ok")
	k.says("drop", "ok")
	// The desk keeps its program and its width.
	k.shows("c;")
	k.adds("c;let ab=12;")
	k.says("set", "1")
	k.shows("c;", "let ab =", "  12;")
	k.says("drop", "ok")
	k.says("set", "0")
	k.shows()
}

// TestBad: lines that are nearly one of those there are; they change nothing.
func TestBad(t *testing.T) {
	k := &talk{T: t}
	k.sets(2, "let ab=12;c;")
	k.says("wide 10", "ok")
	k.has("c;")
	var near []string
	for _, word := range []string{"set", "text", "look", "drop", "wide"} {
		near = append(near, word[:len(word)-1], word[1:], strings.ToUpper(word), strings.ToUpper(word[:1])+word[1:], word+word, word[:1], word[1:]+word[:1])
		for _, more := range []string{" ", "\t", "\r", "\x00", " 1", "1", "s", "+", "|", ".", "\xff", "\u00a0", "\v", " +"} {
			// A blank and a digit behind wide are no near miss.
			if word+more != "wide 1" {
				near = append(near, word+more)
			}
			if more != "+" {
				near = append(near, more+word)
			}
		}
		for _, other := range []string{"set", "text", "look", "drop", "wide"} {
			near = append(near, word+" "+other, word+";"+other)
		}
	}
	near = append(near, "", " ", "ok", "bad", "|", "|a;", "a;", "-", "1", "0", "-a;", " +", " +a;", "\t+", "plus", "\x00", "\xff", "é", "＋a;", "too long", "help", "#", "# a")
	for _, line := range near {
		if slices.Contains([]string{"set", "text", "look", "drop"}, line) {
			t.Fatalf("%q", line)
		}
		gives(t, line+"\n", "bad")
		gives(t, ended("+let ab=12;c;", "set", "wide 10", "drop", "+c;", line, "text", "look", line, "set", "text"),
			"ok", "2", "ok", "ok", "ok", "bad", "|let ab =", "|  12;", "|c;", "ok", "-1", "bad", "0", "|c;", "ok")
	}
}

// bits are pieces of texts that may be put together.
var bits = []string{"let ab=", "a", "b", "12", "(", ")", "[", "]", ",", "+", "*", ";", ";", "a;", "b;", "(a);", "let b=f(1,[2,ab]);", "print(a+b,c*[d,e,12]);", "# so it is", "#", " ", "  ", "[1,2,3,4,5,6,7];", strings.Repeat("a;", api.MaxLines+1), "A", "\t", "\r", "\x00", "\xff"}

// someLine gives some line, which may be none.
func someLine(r *rand.Rand) string {
	switch k := r.Intn(24); {
	case k < 4:
		return "+" + bits[r.Intn(len(bits))] + bits[r.Intn(len(bits))]
	case k < 10:
		return "+" + []string{"a;", "b;", "a;b;", "# so it is and so it was", "let ab=12*(c+d);", "f([a,b],12,g());", "", "(a);"}[r.Intn(8)]
	case k < 13:
		return "set"
	case k < 15:
		return "text"
	case k < 17:
		return "look"
	case k < 19:
		return "drop"
	case k < 21:
		return fmt.Sprintf("wide %d", 10+r.Intn(31))
	case k < 22:
		return fmt.Sprintf("wide %d", r.Intn(12000)-100)
	case k < 23:
		return bits[r.Intn(len(bits))]
	}
	return []string{"", "set ", " text", "look\r", "Drop", "wide", "wide  10", "wide 010", "wide 10 ", "ok", "|a;"}[r.Intn(11)]
}

// some gives some text of lines; it may be too long.
func some(r *rand.Rand) string {
	var lines []string
	for range r.Intn(1 + r.Intn(60)) {
		lines = append(lines, someLine(r))
	}
	return strings.Join(lines, "\n") + []string{"", "\n", "\n\n"}[r.Intn(3)]
}

// TestSome: texts of all sorts, against the model.
func TestSome(t *testing.T) {
	r := rand.New(rand.NewSource(14))
	seen := map[string]int{}
	for range 3000 {
		text := some(r)
		want := modelled(t, text)
		if got := Run(text); got != want {
			t.Fatalf("%q:\n got %q\nwant %q", text, got, want)
		}
		for line := range strings.SplitSeq(want, "\n") {
			word, place, _ := strings.Cut(line, " ")
			if word == "ErrSyntax" && len(place) > 1 {
				place = "far"
			}
			if strings.HasPrefix(line, "|") {
				word, place = "|", ""
			}
			seen[strings.TrimSpace(word+" "+place)]++
		}
	}
	for _, kind := range []string{"ok", "bad", "ErrRange", "ErrSyntax 0", "ErrSyntax far", "ErrFull", "-1", "0", "1", "2", "3", "|"} {
		if seen[kind] < 30 {
			t.Errorf("only %d of %q", seen[kind], kind)
		}
	}
}

// cut gives the texts of the first lines of a text, of none up to all, each line ended by byte 10.
func cut(text string) []string {
	firsts := []string{""}
	for i := range len(text) {
		if text[i] == '\n' {
			firsts = append(firsts, text[:i+1])
		}
	}
	return firsts
}

// begins asks that the answers to each number of first lines are the beginning of the answers to all.
func begins(t *testing.T, text string) {
	t.Helper()
	all := Run(text)
	ahead := ""
	for i, first := range cut(text) {
		got := Run(first)
		if !strings.HasPrefix(all, got) || !strings.HasPrefix(got, ahead) {
			t.Fatalf("%q:\n got %q\nwant %q", first, got, all)
		}
		// Each line has an answer, and that one ends it.
		if i > 0 && (len(got) <= len(ahead) || got[len(got)-1] != '\n' || strings.Contains("\n"+got[len(ahead):len(got)-1], "\nok\n")) {
			t.Fatalf("%q: %q behind %q", first, got, ahead)
		}
		// A byte 10 at the end makes no other line of it, unless the line is empty.
		if bare := strings.TrimSuffix(first, "\n"); bare != "" && !strings.HasSuffix(bare, "\n") && Run(bare) != got {
			t.Fatalf("%q: %q, want %q", bare, Run(bare), got)
		}
		ahead = got
	}
}

func TestFirstLines(t *testing.T) {
	for _, text := range []string{
		"",
		"\n\n\n",
		"+let a=1;\nset\ntext\nlook\nwide 9\n+b\nset\nfly\n",
		"text\nset\ntext\n+a;\nset\ntext\ndrop\nset\ntext\n",
		"+# so it is and so it was\n+a+b+c+d+e;\nset\nwide 10\ntext\nlook\nwide 20\ntext\ndrop\nlook\ntext",
		"+a\n+b\nset\nlook\ndrop\nset\n\n\nlook",
		strings.Repeat("\n", api.MaxRun),
		strings.Repeat("+a;\n", 20) + strings.Repeat("set\ntext\nlook\nwide 10\ndrop\n", 30),
	} {
		begins(t, text)
	}
	r := rand.New(rand.NewSource(15))
	for range 400 {
		begins(t, some(r))
	}
}

// TestFirstLinesOfTooLong: what is too long has no other answer, whatever its first lines have.
func TestFirstLinesOfTooLong(t *testing.T) {
	text := strings.Repeat("+a;\nset\ntext\n", 300)
	most := Run(text[:api.MaxRun])
	for _, first := range cut(text) {
		if len(first) > api.MaxRun {
			gives(t, first, "too long")
		} else if got := Run(first); !strings.HasPrefix(most, got) {
			t.Fatalf("%d: %.300q", len(first), got)
		}
	}
}

// TestAnyBytes: texts of bytes of all sorts; what is no line is bad, and nothing panics.
func TestAnyBytes(t *testing.T) {
	for a := range 256 {
		for b := range 256 {
			text := string([]byte{byte(a), byte(b)})
			if got := Run(text); got != modelled(t, text) {
				t.Fatalf("%q: %q", text, got)
			}
		}
	}
	r := rand.New(rand.NewSource(16))
	for range 3000 {
		text := make([]byte, r.Intn(1+r.Intn(api.MaxRun+5)))
		for i := range text {
			text[i] = byte(r.Intn(256))
		}
		if got := Run(string(text)); got != modelled(t, string(text)) {
			t.Fatalf("%.300q: %.300q", text, got)
		}
	}
}

// TestAnyByteAnywhere: lines of which one byte is another one, is missing, or is one too many.
func TestAnyByteAnywhere(t *testing.T) {
	text := "+let ab=f(12);\n+# c\nset\nwide 10\ntext\nlook\ndrop\nset\n"
	r := rand.New(rand.NewSource(17))
	for i := range len(text) {
		for b := range 256 {
			one := string([]byte{byte(b)})
			for _, other := range []string{text[:i] + one + text[i+1:], text[:i] + one + text[i:], text[:i] + text[i+1:], text[:i] + one, text[:i] + one + text[r.Intn(len(text)):]} {
				if got, want := Run(other), modelled(t, other); got != want {
					t.Fatalf("%q: %q, want %q", other, got, want)
				}
			}
		}
	}
}

// TestNamed: of each error, wrapped too, also those that no text has; the place of ErrSyntax alone.
func TestNamed(t *testing.T) {
	for _, c := range []struct {
		err  error
		want string
	}{
		{api.ErrRange, "ErrRange\n"},
		{api.ErrShape, "ErrShape\n"},
		{api.ErrFull, "ErrFull\n"},
		{api.ErrNone, "ErrNone\n"},
		{api.ErrSyntax, "ErrSyntax 17\n"},
		{fmt.Errorf("it is %w", api.ErrFull), "ErrFull\n"},
		{fmt.Errorf("it is %w", api.ErrSyntax), "ErrSyntax 17\n"},
	} {
		if got := named(17, c.err); got != c.want {
			t.Errorf("%v: %q, want %q", c.err, got, c.want)
		}
	}
}

// TestOtherPanics: one that is no unread is no answer.
func TestOtherPanics(t *testing.T) {
	defer func() {
		if recover() == nil {
			t.Error("it is answered")
		}
	}()
	// A session without a desk is none.
	s := session{}
	s.answer("text")
}

// TestRunsApart: one text's session is nothing to another's, one behind the other or at once.
func TestRunsApart(t *testing.T) {
	texts := []string{"+a;\nset\nwide 10\n", "text\nlook\nset\n", "+a;\nset\ntext\n", "+b", "look"}
	want := []string{"ok\n1\nok\n", "ok\n-1\n0\n", "ok\n1\n|a;\nok\n", "ok\n", "-1\n"}
	var all sync.WaitGroup
	for range 8 {
		all.Go(func() {
			for range 50 {
				for i, text := range texts {
					if got := Run(text); got != want[i] {
						t.Errorf("%q: %q, want %q", text, got, want[i])
					}
				}
			}
		})
	}
	all.Wait()
}

// TestNothingHandedInIsKept: a text is not written into, and what becomes of it behind the call is nothing to the answers.
func TestNothingHandedInIsKept(t *testing.T) {
	for _, text := range []string{"+a;\nset\ntext", "+# abc def\nset\ntext\n", "fly\n", "+a\nset\nlook\n", "drop", "+abc(def);\nset\nwide 10\ntext"} {
		in := []byte(text)
		got := Run(unsafe.String(unsafe.SliceData(in), len(in)))
		if string(in) != text {
			t.Errorf("%q was %q", in, text)
		}
		for i := range in {
			in[i] = '!'
		}
		if want := modelled(t, text); got != want {
			t.Errorf("%q: %q, want %q", text, got, want)
		}
	}
}

// TestSoon: the longest texts take little time.
func TestSoon(t *testing.T) {
	start := time.Now()
	for _, ahead := range []string{
		strings.Repeat("+"+strings.Repeat("a+(", 18)+"a*b"+strings.Repeat(")", 18)+";\n", 3),
		strings.Repeat("+let abcdefgh=[f([g([h([a+b*c*(d+e)])])])];\n", 9),
		strings.Repeat("+# "+strings.Repeat("a ", 60)+"\n+a;\n", 9),
	} {
		for _, again := range []string{"look\n", "text\n", "wide 37\n", "set\n"} {
			text := ahead + "set\n"
			for len(text)+len(again) <= api.MaxRun {
				text += again
			}
			if got := Run(text); strings.Contains(got, "Err") || strings.Contains(got, "bad") {
				t.Errorf("%.300q", got)
			}
		}
	}
	gives(t, strings.Repeat("+a;\n", 1<<22), "too long")
	if took := time.Since(start); took > 20*time.Second {
		t.Errorf("%v", took)
	}
}
