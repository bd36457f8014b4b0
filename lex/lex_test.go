package lex

import (
	"fmt"
	"math/rand"
	"regexp"
	"slices"
	"strings"
	"testing"
	"time"
	"unsafe"

	"pargetry/api"
	"pargetry/plain"
)

// good asks that a text has just these words at these places.
func good(t *testing.T, text string, words []string, at []int) {
	t.Helper()
	gotWords, gotAt, place, err := Words(text)
	if !slices.Equal(gotWords, words) || !slices.Equal(gotAt, at) || place != 0 || err != nil {
		t.Errorf("%.60q: %.60q, %.60v, %d, %v, want %.60q, %.60v", text, gotWords, gotAt, place, err, words, at)
	}
}

// refuse asks that a text has an error and a place, and nothing beside them.
func refuse(t *testing.T, text string, place int, want api.Errno) {
	t.Helper()
	words, at, gotPlace, err := Words(text)
	if len(words) != 0 || len(at) != 0 || gotPlace != place || plain.Told(err) != want {
		t.Errorf("%.60q: %.60q, %.60v, %d, %v, want %d, %v", text, words, at, gotPlace, err, place, want)
	}
}

// each asks that words are just the words of a text, which stand there in their order with what is none between.
func each(t *testing.T, text string, words ...string) {
	t.Helper()
	var at []int
	end := 0
	for _, word := range words {
		i := strings.Index(text[end:], word)
		if i < 0 {
			t.Fatalf("%q has no %q", text, word)
		}
		at = append(at, end+i)
		end += i + len(word)
	}
	good(t, text, words, at)
}

// around asks of what is a word that it is one, whatever may stand about it.
func around(t *testing.T, word string) {
	t.Helper()
	good(t, word, []string{word}, []int{0})
	good(t, " "+word, []string{word}, []int{1})
	good(t, "\n"+word, []string{word}, []int{1})
	good(t, "\n \n  "+word+" ", []string{word}, []int{5})
	good(t, word+"\n", []string{word}, []int{0})
	good(t, word+" \n ", []string{word}, []int{0})
	good(t, "("+word+"\n)", []string{"(", word, ")"}, []int{0, 1, len(word) + 2})
	good(t, word+"\n"+word, []string{word, word}, []int{0, len(word) + 1})
	good(t, "# a\n"+word, []string{"# a", word}, []int{0, 4})
}

// never asks of what is no word that its first byte is told, at the beginning, in the middle and at the end.
func never(t *testing.T, wrong string) {
	t.Helper()
	for _, ahead := range []string{"", " ", "\n", "let a = 1;\n", ";", "# note\n", "(b, ", strings.Repeat("a ", 301), strings.Repeat("#\n", 400)} {
		for _, behind := range []string{"", " ", "\n", "\n;", "\nlet a = 1;", "\n# note", "\nA", "\n\x00"} {
			refuse(t, ahead+wrong+behind, len(ahead), api.ErrSyntax)
		}
	}
}

func letters(n int) string { return strings.Repeat("abcdefghijklmnopqrstuvwxyz", n/26+1)[:n] }

func digits(n int) string { return strings.Repeat("1234567890", n/10+1)[:n] }

func TestNumbers(t *testing.T) {
	if api.MaxText != 60000 || api.MaxTokens != 300 {
		t.Errorf("MaxText %d, MaxTokens %d", api.MaxText, api.MaxTokens)
	}
}

func TestExample(t *testing.T) {
	good(t, "let a=1; # b ", []string{"let", "a", "=", "1", ";", "# b"}, []int{0, 4, 5, 6, 7, 9})
	good(t, "let a = f(b, [1, 20]) +\n  c * 3;\n# so # it is\nd;\n",
		[]string{"let", "a", "=", "f", "(", "b", ",", "[", "1", ",", "20", "]", ")", "+", "c", "*", "3", ";", "# so # it is", "d", ";"},
		[]int{0, 4, 6, 8, 9, 10, 11, 13, 14, 15, 17, 19, 20, 22, 26, 28, 30, 31, 33, 46, 47})
}

func TestNames(t *testing.T) {
	for n := 1; n <= 40; n++ {
		for _, name := range []string{letters(n), strings.Repeat("a", n), strings.Repeat("z", n)} {
			if n <= 8 {
				around(t, name)
			} else {
				never(t, name)
			}
		}
	}
	for b := 'a'; b <= 'z'; b++ {
		around(t, string(b))
		around(t, "aaaaaaa"+string(b))
		never(t, "aaaaaaaa"+string(b))
	}
	for _, name := range []string{"let", "lets", "le", "letlet"} {
		around(t, name)
	}
	for _, n := range []int{255, 256, 257, 264, 59000} {
		never(t, letters(n))
	}
}

func TestDigits(t *testing.T) {
	for n := 1; n <= 40; n++ {
		for _, number := range []string{digits(n), strings.Repeat("9", n), "1" + strings.Repeat("0", n-1)} {
			if n <= 6 {
				around(t, number)
			} else {
				never(t, number)
			}
		}
	}
	for n := range 1000 {
		around(t, fmt.Sprint(n))
		around(t, fmt.Sprint(999999-n))
		never(t, fmt.Sprint(1000000+n))
		never(t, "0"+fmt.Sprint(n))
	}
	for _, n := range []int{255, 256, 257, 262, 59000} {
		never(t, digits(n))
	}
}

func TestNought(t *testing.T) {
	around(t, "0")
	for n := 2; n <= 12; n++ {
		never(t, strings.Repeat("0", n))
		never(t, "0"+digits(n-1))
		never(t, strings.Repeat("0", n-1)+"1")
	}
	each(t, "0 0\n0", "0", "0", "0")
	each(t, "0a0", "0", "a", "0")
	each(t, "0,1", "0", ",", "1")
	each(t, "10 100000 101", "10", "100000", "101")
	refuse(t, "0 00", 2, api.ErrSyntax)
	refuse(t, "1 01", 2, api.ErrSyntax)
	refuse(t, "a01", 1, api.ErrSyntax)
}

func TestMarks(t *testing.T) {
	all := strings.Split("()[],+*=;", "")
	if len(all) != 9 {
		t.Fatalf("%q", all)
	}
	for _, a := range all {
		around(t, a)
		for _, b := range all {
			good(t, a+b, []string{a, b}, []int{0, 1})
			good(t, a+b+"x"+b+a, []string{a, b, "x", b, a}, []int{0, 1, 2, 3, 4})
		}
		each(t, "a"+a+"1", "a", a, "1")
		each(t, "1"+a+"a", "1", a, "a")
		each(t, a+"# a", a, "# a")
	}
	each(t, strings.Join(all, ""), all...)
	each(t, strings.Join(all, "  "), all...)
	each(t, "==", "=", "=")
	each(t, "+=", "+", "=")
	each(t, "((a)))", "(", "(", "a", ")", ")", ")")
}

// TestAsLongAsCanBe: names and numbers right behind each other.
func TestAsLongAsCanBe(t *testing.T) {
	each(t, "a1", "a", "1")
	each(t, "1a", "1", "a")
	each(t, "abc123def456", "abc", "123", "def", "456")
	each(t, "abcdefgh123456", "abcdefgh", "123456")
	each(t, "123456abcdefgh", "123456", "abcdefgh")
	each(t, "abcdefgh0abcdefgh", "abcdefgh", "0", "abcdefgh")
	each(t, "let1let", "let", "1", "let")
	each(t, "abcd efgh ijkl", "abcd", "efgh", "ijkl")
	each(t, "abcdefgh\nabcdefgh", "abcdefgh", "abcdefgh")
	each(t, "123 456 789", "123", "456", "789")
	refuse(t, "123456abcdefghi", 6, api.ErrSyntax)
	refuse(t, "abcdefgh1234567", 8, api.ErrSyntax)
	refuse(t, "abcdefghi1", 0, api.ErrSyntax)
	refuse(t, "1234567a", 0, api.ErrSyntax)
	refuse(t, "1a00", 2, api.ErrSyntax)
	refuse(t, "abcdefgh abcdefghi", 9, api.ErrSyntax)
	for n := 1; n <= 8; n++ {
		for k := 1; k <= 6; k++ {
			each(t, letters(n)+digits(k)+letters(n), letters(n), digits(k), letters(n))
			each(t, digits(k)+letters(n)+digits(k), digits(k), letters(n), digits(k))
		}
	}
}

// TestBytes: all of them, each by itself and among others.
func TestBytes(t *testing.T) {
	for b := range 256 {
		c := string([]byte{byte(b)})
		switch {
		case c == " " || c == "\n":
			good(t, c, nil, nil)
			each(t, "a"+c+"b", "a", "b")
		case strings.Contains("abcdefghijklmnopqrstuvwxyz0123456789()[],+*=;#", c):
			around(t, c)
		default:
			never(t, c)
			never(t, c+"a")
			never(t, c+c)
			refuse(t, "a"+c, 1, api.ErrSyntax)
			refuse(t, "a"+c+"a", 1, api.ErrSyntax)
			refuse(t, "12"+c+"12", 2, api.ErrSyntax)
			refuse(t, "()"+c, 2, api.ErrSyntax)
			refuse(t, "let a = 1; "+c+" # b", 11, api.ErrSyntax)
		}
	}
	for _, wrong := range []string{"é", "世", "\xff\xfe", "\xc3", "\u0085", "\u00a0", "\ufeff", "\t", "\r\n", "_", "-1", "\"a\"", "//", "A", "Let", "LET"} {
		never(t, wrong)
	}
	refuse(t, "aé", 1, api.ErrSyntax)
	refuse(t, "camelCase", 5, api.ErrSyntax)
	refuse(t, "abcdefghiA", 0, api.ErrSyntax)
	refuse(t, "a\r\nb", 1, api.ErrSyntax)
	refuse(t, "a\tb", 1, api.ErrSyntax)
	refuse(t, "1.5", 1, api.ErrSyntax)
	refuse(t, "1-5", 1, api.ErrSyntax)
	// The first one is told.
	refuse(t, "a ! 01 A", 2, api.ErrSyntax)
	refuse(t, "a 01 ! A", 2, api.ErrSyntax)
	refuse(t, "a #\x00\n!", 2, api.ErrSyntax)
}

func TestNotes(t *testing.T) {
	for _, note := range []string{"#", "##", "#a", "# a", "#  a", "# a b", "# a   b", "# # #", "#A-Z_!?", "# 0000000 01", "# abcdefghijklm", "#;", "#()", "# let a = 1;"} {
		around(t, note)
		// Blanks at its end are no part of it.
		for n := range 5 {
			blanks := strings.Repeat(" ", n)
			good(t, note+blanks, []string{note}, []int{0})
			good(t, note+blanks+"\n", []string{note}, []int{0})
			good(t, note+blanks+"\n\n", []string{note}, []int{0})
			good(t, note+blanks+"\n"+note+blanks, []string{note, note}, []int{0, len(note) + n + 1})
			good(t, note+blanks+"\n"+blanks+"b", []string{note, "b"}, []int{0, len(note) + 2*n + 1})
			good(t, "b"+blanks+note+blanks, []string{"b", note}, []int{0, 1 + n})
		}
	}
	// Right behind something else.
	each(t, "a#b", "a", "#b")
	each(t, "1#2", "1", "#2")
	each(t, ";#;", ";", "#;")
	each(t, "let a = 1; # b\n# c\n", "let", "a", "=", "1", ";", "# b", "# c")
	// Two behind each other: only in two lines.
	good(t, "# a\n# b", []string{"# a", "# b"}, []int{0, 4})
	good(t, "# a\n\n  # b\n", []string{"# a", "# b"}, []int{0, 7})
	good(t, "# a # b", []string{"# a # b"}, []int{0})
	good(t, "#\n#", []string{"#", "#"}, []int{0, 2})
	good(t, "##", []string{"##"}, []int{0})
	// As long as a text can be.
	long := "#" + strings.Repeat(" a", (api.MaxText-2)/2) + "a"
	good(t, long, []string{long}, []int{0})
	good(t, "#"+strings.Repeat(" ", api.MaxText-1), []string{"#"}, []int{0})
}

// TestNoteBytes: all of them, at all ends of a note.
func TestNoteBytes(t *testing.T) {
	for b := range 256 {
		c := string([]byte{byte(b)})
		for _, note := range []string{"#" + c, "# " + c, "# a" + c + "b", "# a " + c, "# a" + c + "  ", "#" + c + c} {
			switch {
			case c == "\n":
			case b == 32:
				trimmed := strings.TrimRight(note, " ")
				good(t, "; "+note+"\nb", []string{";", trimmed, "b"}, []int{0, 2, 3 + len(note)})
			case 32 < b && b <= 126:
				trimmed := strings.TrimRight(note, " ")
				around(t, trimmed)
				good(t, "; "+note+"\nb", []string{";", trimmed, "b"}, []int{0, 2, 3 + len(note)})
			default:
				// The place is the note's first byte, not that of the byte that is wrong.
				never(t, note)
				refuse(t, "# a\n"+note, 4, api.ErrSyntax)
			}
		}
	}
	each(t, "# a\n b", "# a", "b")
	refuse(t, "# a\n\x00", 4, api.ErrSyntax)
	refuse(t, "# é", 0, api.ErrSyntax)
	refuse(t, "a # a\r\nb", 2, api.ErrSyntax)
	refuse(t, "a # a \t", 2, api.ErrSyntax)
	refuse(t, "#"+strings.Repeat("a", api.MaxText-2)+"\x7f", 0, api.ErrSyntax)
}

func TestNothing(t *testing.T) {
	good(t, "", nil, nil)
	for n := range 20 {
		good(t, strings.Repeat(" ", n), nil, nil)
		good(t, strings.Repeat("\n", n), nil, nil)
		good(t, strings.Repeat(" \n", n), nil, nil)
		good(t, strings.Repeat("\n ", n)+"\n", nil, nil)
	}
	good(t, strings.Repeat(" ", api.MaxText), nil, nil)
	good(t, strings.Repeat("\n", api.MaxText), nil, nil)
}

// TestPlaces: where a word begins hangs on all bytes ahead of it.
func TestPlaces(t *testing.T) {
	for n := range 300 {
		good(t, strings.Repeat(" ", n)+"a", []string{"a"}, []int{n})
		good(t, strings.Repeat("\n", n)+"12 #", []string{"12", "#"}, []int{n, n + 3})
		refuse(t, strings.Repeat(" ", n)+"A", n, api.ErrSyntax)
		refuse(t, strings.Repeat("\n", n)+"#\x01", n, api.ErrSyntax)
	}
	good(t, strings.Repeat(" ", api.MaxText-1)+"a", []string{"a"}, []int{api.MaxText - 1})
	good(t, strings.Repeat(" ", api.MaxText-1)+"#", []string{"#"}, []int{api.MaxText - 1})
	refuse(t, strings.Repeat(" ", api.MaxText-1)+"A", api.MaxText-1, api.ErrSyntax)
}

// TestLongTexts: more than MaxText bytes are told ahead of all else.
func TestLongTexts(t *testing.T) {
	for _, n := range []int{api.MaxText - 1, api.MaxText, api.MaxText + 1, api.MaxText + 2, 65536, 100000, 1000000} {
		fill := strings.Repeat(" ", n-1)
		if n <= api.MaxText {
			good(t, "a"+fill, []string{"a"}, []int{0})
			good(t, fill+"a", []string{"a"}, []int{n - 1})
			refuse(t, "A"+fill, 0, api.ErrSyntax)
			refuse(t, fill[:n/2]+"A"+fill[n/2:], n/2, api.ErrSyntax)
			refuse(t, fill+"\x00", n-1, api.ErrSyntax)
			refuse(t, strings.Repeat(";", n), 0, api.ErrFull)
			refuse(t, strings.Repeat(";", n-1)+"!", n-1, api.ErrSyntax)
			refuse(t, strings.Repeat("a", n), 0, api.ErrSyntax)
			continue
		}
		for _, text := range []string{fill + " ", "a" + fill, fill + "a", "A" + fill, fill[:n/2] + "A" + fill[n/2:], fill + "\x00", strings.Repeat(";", n), strings.Repeat("a", n), "#" + fill, strings.Repeat("\xff", n)} {
			refuse(t, text, 0, api.ErrFull)
		}
	}
}

// TestTokens: more than MaxTokens words, notes aside.
func TestTokens(t *testing.T) {
	for _, unit := range []string{"a\n", "0 ", "abcdefgh ", "123456\n", ";", " (", "# a\na\n", "a # b\n", "#\n#\n#\n1 ", "a#\n"} {
		word := strings.Trim(regexp.MustCompile("#[^\n]*").ReplaceAllString(unit, ""), " \n")
		for _, n := range []int{299, 300, 301, 302, 556, 600} {
			text := strings.Repeat(unit, n)
			if n > 300 {
				refuse(t, text, 0, api.ErrFull)
				refuse(t, text+"# a", 0, api.ErrFull)
				for _, wrong := range []string{"!", "A", "\x00", "abcdefghi", "01", "1234567", "#\t"} {
					// What can be no word is told ahead of too many words, also behind them.
					refuse(t, text+"\n"+wrong, len(text)+1, api.ErrSyntax)
					refuse(t, wrong+"\n"+text, 0, api.ErrSyntax)
				}
				continue
			}
			words, at, place, err := Words(text)
			if err != nil || place != 0 || len(words) != len(at) {
				t.Fatalf("%q %d times: %d words, %d places, %d, %v", unit, n, len(words), len(at), place, err)
			}
			others := slices.DeleteFunc(words, func(w string) bool { return w[0] == '#' })
			if !slices.Equal(others, slices.Repeat([]string{word}, n)) {
				t.Errorf("%q %d times: %q", unit, n, others)
			}
		}
	}
	// Words of different kinds are counted together.
	good300 := strings.Repeat("a 1;\n", 100)
	each(t, good300, slices.Repeat([]string{"a", "1", ";"}, 100)...)
	for _, more := range []string{"a", "1", "(", "\n\n="} {
		refuse(t, good300+more, 0, api.ErrFull)
	}
	each(t, good300+"# a\n# b", append(slices.Repeat([]string{"a", "1", ";"}, 100), "# a", "# b")...)
	// Notes alone are as many as there is room for.
	each(t, strings.Repeat("#\n", 301), slices.Repeat([]string{"#"}, 301)...)
	each(t, strings.Repeat("#\n", api.MaxText/2), slices.Repeat([]string{"#"}, api.MaxText/2)...)
	each(t, strings.Repeat("# a;b\n", 301)+good300, append(slices.Repeat([]string{"# a;b"}, 301), slices.Repeat([]string{"a", "1", ";"}, 100)...)...)
}

// TestErrorsInOrder: too many bytes, what can be no word, too many words.
func TestErrorsInOrder(t *testing.T) {
	many, wrong, long := strings.Repeat("a ", 301), "! ", strings.Repeat(" ", api.MaxText)
	refuse(t, many, 0, api.ErrFull)
	refuse(t, many+wrong, len(many), api.ErrSyntax)
	refuse(t, wrong+many, 0, api.ErrSyntax)
	refuse(t, " "+wrong+many, 1, api.ErrSyntax)
	refuse(t, long+many, 0, api.ErrFull)
	refuse(t, many+wrong+long, 0, api.ErrFull)
	refuse(t, "  "+wrong+long, 0, api.ErrFull)
	refuse(t, long+wrong, 0, api.ErrFull)
}

var (
	piece = regexp.MustCompile(`^(?:[ \n]+|[a-z]+|[0-9]+|#[^\n]*|(?s:.))`)
	right = regexp.MustCompile(`^(?:[a-z]{1,8}|0|[1-9][0-9]{0,5}|[()\[\],+*=;]|#(?:[ -~]*[!-~])?)$`)
)

// read gives what Words should, by what the chapter says as patterns: another road to the same.
func read(text string) (words []string, at []int, place int, want api.Errno) {
	if len(text) > api.MaxText {
		return nil, nil, 0, api.ErrFull
	}
	others := 0
	for i := 0; i < len(text); {
		whole := piece.FindString(text[i:])
		word := strings.TrimRight(whole, " \n")
		switch {
		case word == "":
		case !right.MatchString(word):
			return nil, nil, i, api.ErrSyntax
		default:
			words, at = append(words, word), append(at, i)
			if !strings.HasPrefix(word, "#") {
				others++
			}
		}
		i += len(whole)
	}
	if others > api.MaxTokens {
		return nil, nil, 0, api.ErrFull
	}
	return words, at, 0, api.OK
}

// held holds Words against read.
func held(t *testing.T, text string) api.Errno {
	t.Helper()
	words, at, place, want := read(text)
	if want != api.OK {
		refuse(t, text, place, want)
	} else {
		good(t, text, words, at)
	}
	return want
}

// TestOfAll: all short texts of some bytes.
func TestOfAll(t *testing.T) {
	texts := []string{""}
	for range 5 {
		var more []string
		for _, text := range texts {
			held(t, text)
			for _, c := range []string{"a", "0", "7", "#", " ", "\n", ";", "A", "\t", "\xff"} {
				more = append(more, text+c)
			}
		}
		texts = more
	}
	for _, text := range texts {
		held(t, text)
	}
}

// TestOfSome: long texts of pieces, most of them right.
func TestOfSome(t *testing.T) {
	r := rand.New(rand.NewSource(7))
	parts := []string{" ", "  ", "\n", " \n ", "a", "let", "abcdefgh", "0", "7", "123456", "(", ")", "[", "]", ",", "+", "*", "=", ";", "#", "# a  b ", "#\n", "# 01 A !\n"}
	wrong := []string{"!", "A", "01", "1234567", "abcdefghi", "\t", "\x00", "\x7f", "\xff", "é", "#\x1f\n", "# \x7f"}
	seen := map[api.Errno]int{}
	for range 8000 {
		var b strings.Builder
		for range r.Intn(1 + r.Intn(1200)) {
			b.WriteString(parts[r.Intn(len(parts))])
			// Mostly between, so that not each text is spoilt by two names that have become one.
			if r.Intn(20) > 0 {
				b.WriteString(parts[r.Intn(4)])
			}
			if r.Intn(800) == 0 {
				b.WriteString(wrong[r.Intn(len(wrong))])
			}
		}
		seen[held(t, b.String())]++
	}
	if seen[api.OK] < 1000 || seen[api.ErrSyntax] < 1000 || seen[api.ErrFull] < 100 {
		t.Errorf("not enough of each: %v", seen)
	}
	for range 2000 {
		b := make([]byte, r.Intn(30))
		for i := range b {
			b[i] = byte(r.Intn(256))
		}
		held(t, string(b))
	}
}

// TestSoon: the longest texts take little time.
func TestSoon(t *testing.T) {
	for _, unit := range []string{"a", "1", "0", ";", " ", "\n", "#", "#\n", "# ", "a ", "a#\n", "\xff"} {
		text := strings.Repeat(unit, api.MaxText/len(unit))
		start := time.Now()
		held(t, text)
		if took := time.Since(start); took > 5*time.Second {
			t.Errorf("%q: %v", unit, took)
		}
	}
}

// TestFreshMemory: what comes out is the caller's, whatever becomes of another answer.
func TestFreshMemory(t *testing.T) {
	for _, text := range []string{"a", "# a b", "let a=1; # b \n(c)", strings.Repeat("name 12;", 100)} {
		words, at, _, err := Words(text)
		if err != nil {
			t.Fatal(err)
		}
		keptWords, keptAt := slices.Clone(words), slices.Clone(at)
		otherWords, otherAt, _, _ := Words(text)
		if &words[0] == &otherWords[0] || &at[0] == &otherAt[0] {
			t.Errorf("%.60q: two answers share memory", text)
		}
		start := uintptr(unsafe.Pointer(unsafe.StringData(text)))
		for _, word := range append(slices.Clone(words), otherWords...) {
			if p := uintptr(unsafe.Pointer(unsafe.StringData(word))); start <= p && p < start+uintptr(len(text)) {
				t.Errorf("%q is a piece of %.60q", word, text)
			}
		}
		for i := range words {
			if unsafe.StringData(words[i]) == unsafe.StringData(otherWords[i]) {
				t.Errorf("%q: shared by two answers", words[i])
			}
		}
		for i := range otherWords[:cap(otherWords)] {
			otherWords[:cap(otherWords)][i] = "x"
		}
		for i := range otherAt[:cap(otherAt)] {
			otherAt[:cap(otherAt)][i] = -1
		}
		if !slices.Equal(words, keptWords) || !slices.Equal(at, keptAt) {
			t.Errorf("%.60q: %q was %q, %v was %v", text, words, keptWords, at, keptAt)
		}
		good(t, text, keptWords, keptAt)
	}
}

// TestNothingIsKept: what is asked next hangs on nothing that was asked ahead of it.
func TestNothingIsKept(t *testing.T) {
	for _, ahead := range []string{"", "a", "A", strings.Repeat("a ", 300), strings.Repeat("a ", 301), strings.Repeat(" ", api.MaxText+1), "# a", "#\x00"} {
		Words(ahead)
		good(t, "a 1;", []string{"a", "1", ";"}, []int{0, 2, 3})
		Words(ahead)
		refuse(t, "a 1; !", 5, api.ErrSyntax)
		Words(ahead)
		good(t, "", nil, nil)
	}
}
