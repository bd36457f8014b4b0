package fill

import (
	"fmt"
	"math"
	"math/rand"
	"slices"
	"strings"
	"testing"
	"time"
	"unsafe"

	"pargetry/api"
	"pargetry/plain"
)

// of makes words of so many bytes each.
func of(longs ...int) []string {
	var words []string
	for i, n := range longs {
		words = append(words, strings.Repeat(string(rune('a'+i%26)), n))
	}
	return words
}

// same makes n words of so many bytes.
func same(n, long int) []string { return of(slices.Repeat([]int{long}, n)...) }

// someWords are words of all bytes that may be, most of them short.
func someWords(r *rand.Rand, n int) []string {
	words := make([]string, n)
	for i := range words {
		b := make([]byte, 1+r.Intn(1+r.Intn(api.MaxWord)))
		for k := range b {
			b[k] = byte(33 + r.Intn(94))
		}
		words[i] = string(b)
	}
	return words
}

// linesOf puts so many words into each line.
func linesOf(words []string, many []int) []string {
	var lines []string
	for _, n := range many {
		lines = append(lines, strings.Join(words[:n], " "))
		words = words[n:]
	}
	return lines
}

// raggedOf tells how bad lines are, by what the chapter says of each.
func raggedOf(lines []string, width int) int {
	all := 0
	for i, line := range lines {
		switch {
		case len(line) > width:
			all += (len(line) - width) * 1000
		case i < len(lines)-1:
			all += (width - len(line)) * (width - len(line))
		}
	}
	return all
}

// shares are all rows of numbers from 1 on that are n together, those ahead that have more where they first differ.
func shares(n int) [][]int {
	if n == 0 {
		return [][]int{nil}
	}
	var all [][]int
	for first := n; first > 0; first-- {
		for _, rest := range shares(n - first) {
			all = append(all, append([]int{first}, rest...))
		}
	}
	return all
}

// tried gives the first of the least bad of all lines, each of them tried.
func tried(words []string, all [][]int, width int) []string {
	var best []string
	least := math.MaxInt
	for _, many := range all {
		lines := linesOf(words, many)
		if b := raggedOf(lines, width); b < least {
			best, least = lines, b
		}
	}
	return best
}

// swept gives the lines that Fill should, from the left, where Fill goes from the end: another road to the same.
func swept(words []string, width int) []string {
	best := make([][]int, len(words)+1)
	least := make([]int, len(words)+1)
	for end := 1; end <= len(words); end++ {
		least[end] = math.MaxInt
		for start := range end {
			line := strings.Join(words[start:end], " ")
			b := least[start]
			if len(line) > width {
				b += 1000 * (len(line) - width)
			} else if end < len(words) {
				b += (width - len(line)) * (width - len(line))
			}
			many := append(slices.Clone(best[start]), end-start)
			if b < least[end] || b == least[end] && slices.Compare(many, best[end]) > 0 {
				best[end], least[end] = many, b
			}
		}
	}
	return linesOf(words, best[len(words)])
}

// fill gives the lines of words that are right, and holds the words against what they were.
func fill(t *testing.T, words []string, width int) []string {
	t.Helper()
	kept := slices.Clone(words)
	start := time.Now()
	lines, err := Fill(words, width)
	if took := time.Since(start); took > 5*time.Second {
		t.Fatalf("Fill of %d words, %d: %v", len(words), width, took)
	}
	if err != nil {
		t.Fatalf("Fill of %q, %d: %v", words, width, err)
	}
	if !slices.Equal(words, kept) {
		t.Fatalf("%q was %q", words, kept)
	}
	return lines
}

// ragged tells how bad right words are, and holds both lists against what they were.
func ragged(t *testing.T, words []string, many []int, width int) int {
	t.Helper()
	keptWords, keptMany := slices.Clone(words), slices.Clone(many)
	b, err := Ragged(words, many, width)
	if err != nil {
		t.Fatalf("Ragged of %q, %v, %d: %v", words, many, width, err)
	}
	if !slices.Equal(words, keptWords) || !slices.Equal(many, keptMany) {
		t.Fatalf("%q was %q, %v was %v", words, keptWords, many, keptMany)
	}
	return b
}

// refuseRagged asks that Ragged says an error, and nothing beside it.
func refuseRagged(t *testing.T, words []string, many []int, width int, want api.Errno) {
	t.Helper()
	keptWords, keptMany := slices.Clone(words), slices.Clone(many)
	b, err := Ragged(words, many, width)
	if b != 0 || plain.Told(err) != want {
		t.Errorf("Ragged of %d words %.9q, %.9v, %d: %d, %v, want %v", len(words), words, many, width, b, err, want)
	}
	if !slices.Equal(words, keptWords) || !slices.Equal(many, keptMany) {
		t.Errorf("%q was %q, %v was %v", words, keptWords, many, keptMany)
	}
}

// refuseFill asks that Fill says an error, and nothing beside it.
func refuseFill(t *testing.T, words []string, width int, want api.Errno) {
	t.Helper()
	kept := slices.Clone(words)
	lines, err := Fill(words, width)
	if len(lines) != 0 || plain.Told(err) != want {
		t.Errorf("Fill of %d words %.9q, %d: %q, %v, want %v", len(words), words, width, lines, err, want)
	}
	if !slices.Equal(words, kept) {
		t.Errorf("%q was %q", words, kept)
	}
}

// told asks all three calls, which must say the same of words where all else is right.
func told(t *testing.T, words []string) api.Errno {
	t.Helper()
	kept := slices.Clone(words)
	e := plain.Told(Check(words))
	if !slices.Equal(words, kept) {
		t.Errorf("%q was %q", words, kept)
	}
	if e != api.OK {
		refuseFill(t, words, 40, e)
		refuseRagged(t, words, slices.Repeat([]int{1}, len(words)), 40, e)
		return e
	}
	fill(t, words, 40)
	ragged(t, words, slices.Repeat([]int{1}, len(words)), 40)
	return e
}

func TestNumbers(t *testing.T) {
	if api.MaxWords != 60 || api.MaxWord != 20 || api.MaxWidth != 100 {
		t.Errorf("MaxWords %d, MaxWord %d, MaxWidth %d", api.MaxWords, api.MaxWord, api.MaxWidth)
	}
}

func TestCheckHowMany(t *testing.T) {
	for _, words := range [][]string{nil, {}} {
		if e := told(t, words); e != api.OK {
			t.Errorf("no words: %v", e)
		}
	}
	for n := range 130 {
		want := api.OK
		if n > 60 {
			want = api.ErrFull
		}
		for _, long := range []int{1, 20} {
			if e := told(t, same(n, long)); e != want {
				t.Errorf("%d words of %d bytes: %v", n, long, e)
			}
		}
	}
	if e := told(t, same(100000, 1)); e != api.ErrFull {
		t.Errorf("100000 words: %v", e)
	}
}

func TestCheckHowLong(t *testing.T) {
	for _, n := range []int{0, 1, 2, 19, 20, 21, 22, 40, 60, 61, 255, 256, 257, 276, 70000} {
		want := api.OK
		if n < 1 || n > 20 {
			want = api.ErrSyntax
		}
		for _, words := range [][]string{of(n), of(1, n), of(n, 1), of(20, n, 3), append(same(59, 2), of(n)...)} {
			if e := told(t, words); e != want {
				t.Errorf("%d words, one of %d bytes: %v", len(words), n, e)
			}
		}
	}
}

func TestCheckBytes(t *testing.T) {
	for b := range 256 {
		want := api.ErrSyntax
		if 33 <= b && b <= 126 {
			want = api.OK
		}
		c := string([]byte{byte(b)})
		for _, word := range []string{c, "a" + c, c + "a", "a" + c + "a", strings.Repeat("a", 19) + c, c + strings.Repeat("a", 19)} {
			for _, words := range [][]string{{word}, {"a", word}, {word, "a"}, append(same(59, 20), word)} {
				if e := told(t, words); e != want {
					t.Errorf("%q: %v", word, e)
				}
			}
		}
	}
	for _, word := range []string{"é", "aé", "世", "\xff\xfe", "\xc3", "\u0085", "a b", " a", "a ", "a\n", "\ta", "\x00"} {
		if e := told(t, []string{word}); e != api.ErrSyntax {
			t.Errorf("%q: %v", word, e)
		}
	}
	var all []byte
	for b := 33; b <= 126; b++ {
		all = append(all, byte(b))
	}
	var words []string
	for piece := range slices.Chunk(all, 20) {
		words = append(words, string(piece))
	}
	if e := told(t, words); e != api.OK {
		t.Errorf("%q: %v", words, e)
	}
}

// TestCheckFullFirst: too many words are told, also where one of them is none.
func TestCheckFullFirst(t *testing.T) {
	for _, wrong := range []string{"", " ", "\x7f", "\x80", "a b", strings.Repeat("a", 21)} {
		for _, at := range []int{0, 1, 30, 58, 59} {
			words := same(60, 1)
			words[at] = wrong
			if e := told(t, words); e != api.ErrSyntax {
				t.Errorf("%q as word %d of 60: %v", wrong, at, e)
			}
			if e := told(t, append(words, "a")); e != api.ErrFull {
				t.Errorf("%q as word %d of 61: %v", wrong, at, e)
			}
		}
		if e := told(t, append(same(60, 1), wrong)); e != api.ErrFull {
			t.Errorf("%q as word 60 of 61: %v", wrong, e)
		}
		if e := told(t, slices.Repeat([]string{wrong}, 61)); e != api.ErrFull {
			t.Errorf("%q 61 times: %v", wrong, e)
		}
	}
}

func TestRagged(t *testing.T) {
	for _, c := range []struct {
		words []string
		many  []int
		width int
		want  int
	}{
		// No words are no lines.
		{nil, nil, 1, 0},
		{[]string{}, []int{}, 100, 0},
		// The last line costs nothing where it is short, or just as long.
		{of(1), []int{1}, 1, 0},
		{of(1), []int{1}, 2, 0},
		{of(1), []int{1}, 100, 0},
		{of(3, 4), []int{2}, 8, 0},
		{of(3, 4), []int{2}, 9, 0},
		// It costs 1000 for each byte above where it is longer.
		{of(2), []int{1}, 1, 1000},
		{of(20), []int{1}, 1, 19000},
		{of(3, 4), []int{2}, 7, 1000},
		{of(3, 4), []int{2}, 1, 7000},
		// A line ahead of it costs the square of what is missing.
		{of(4, 1), []int{1, 1}, 4, 0},
		{of(4, 1), []int{1, 1}, 5, 1},
		{of(4, 1), []int{1, 1}, 6, 4},
		{of(4, 1), []int{1, 1}, 14, 100},
		{of(1, 1), []int{1, 1}, 100, 99 * 99},
		{of(2, 1, 1), []int{1, 2}, 4, 4},
		{of(2, 1, 1), []int{2, 1}, 4, 0},
		{of(2, 1, 1), []int{1, 1, 1}, 4, 4 + 9},
		{of(2, 1, 1), []int{3}, 4, 2000},
		// Or 1000 for each byte above.
		{of(4, 1), []int{1, 1}, 3, 1000},
		{of(4, 1), []int{1, 1}, 1, 3000},
		{of(4, 2), []int{1, 1}, 1, 3000 + 1000},
		{of(4, 5), []int{1, 1}, 4, 1000},
		// Line by line: what is missing in one is no help in another.
		{of(3, 6, 2, 1), []int{1, 1, 1, 1}, 5, 4 + 1000 + 9},
		{of(3, 6, 2, 1), []int{2, 2}, 5, 5000},
		{of(3, 6, 2, 1), []int{2, 2}, 3, 7000 + 1000},
		{of(3, 6, 2, 1), []int{1, 3}, 11, 64},
		{of(3, 6, 2, 1), []int{3, 1}, 20, 49},
		// Bytes, of whatever kind.
		{[]string{"!~", "\"\\"}, []int{1, 1}, 5, 9},
		// The longest.
		{same(60, 20), []int{60}, 100, 1159000},
		{same(60, 20), []int{60}, 1, 1258000},
		{same(60, 20), slices.Repeat([]int{1}, 60), 100, 59 * 6400},
		{same(60, 20), slices.Repeat([]int{1}, 60), 20, 0},
		{same(60, 20), slices.Repeat([]int{1}, 60), 1, 60 * 19000},
		{same(60, 1), slices.Repeat([]int{1}, 60), 100, 59 * 9801},
		{same(60, 1), []int{50, 10}, 100, 1},
		{same(60, 1), []int{10, 50}, 100, 81 * 81},
	} {
		if got := ragged(t, c.words, c.many, c.width); got != c.want {
			t.Errorf("Ragged(%q, %v, %d): %d, want %d", c.words, c.many, c.width, got, c.want)
		}
	}
}

// TestRaggedOfAll: all lines of some words, at all widths.
func TestRaggedOfAll(t *testing.T) {
	for _, words := range [][]string{of(1), of(20), of(2, 1, 1), of(5, 1, 9, 3), of(1, 2, 3, 4, 5, 6), of(20, 1, 19, 2, 18, 3, 17)} {
		for _, many := range shares(len(words)) {
			for width := 1; width <= api.MaxWidth; width++ {
				if got, want := ragged(t, words, many, width), raggedOf(linesOf(words, many), width); got != want {
					t.Errorf("%q, %v, %d: %d, want %d", words, many, width, got, want)
				}
			}
		}
	}
}

// TestRaggedMany: numbers that are not the words together, or below 1.
func TestRaggedMany(t *testing.T) {
	most, least := math.MaxInt, math.MinInt
	for _, c := range []struct {
		words int
		many  []int
	}{
		// Fewer than the words, and more.
		{1, nil},
		{1, []int{}},
		{3, nil},
		{3, []int{1}},
		{3, []int{2}},
		{3, []int{1, 1}},
		{60, slices.Repeat([]int{1}, 59)},
		{60, []int{59}},
		{0, []int{1}},
		{0, []int{1, 1}},
		{1, []int{2}},
		{1, []int{1, 1}},
		{3, []int{4}},
		{3, []int{3, 1}},
		{3, []int{1, 3}},
		{3, []int{1, 1, 1, 1}},
		{60, slices.Repeat([]int{1}, 61)},
		{60, []int{61}},
		{60, []int{30, 31}},
		{3, slices.Repeat([]int{1}, 100000)},
		// Below 1, also where they are the words together.
		{0, []int{0}},
		{0, []int{0, 0}},
		{0, []int{-1}},
		{0, []int{1, -1}},
		{0, []int{-1, 1}},
		{1, []int{0}},
		{1, []int{1, 0}},
		{1, []int{0, 1}},
		{3, []int{0, 3}},
		{3, []int{3, 0}},
		{3, []int{1, 0, 2}},
		{3, []int{4, -1}},
		{3, []int{-1, 4}},
		{3, []int{2, -1, 2}},
		{3, []int{-3}},
		// Very great ones, also such as wrap round to the words together.
		{0, []int{most}},
		{0, []int{least}},
		{0, []int{least, least}},
		{0, []int{most, most, 2}},
		{0, []int{most, 1, least}},
		{1, []int{most, most, 3}},
		{1, []int{1, most, most, 2}},
		{3, []int{most}},
		{3, []int{least}},
		{3, []int{most, 1}},
		{3, []int{1, most}},
		{3, []int{most, most, 5}},
		{3, []int{5, most, most}},
		{3, []int{1, 2, most, most, 2}},
		{3, []int{least, least, 3}},
		{3, []int{3, least, least}},
		{3, []int{most, 4, least}},
		{3, slices.Repeat([]int{1 << 62}, 4)},
		{3, append(slices.Repeat([]int{1 << 62}, 4), 3)},
		{3, append([]int{3}, slices.Repeat([]int{1 << 62}, 4)...)},
		{3, []int{1 << 32}},
		{3, []int{1<<32 + 3}},
		{3, []int{259}},
		{3, []int{-1 << 32, 1<<32 + 3}},
	} {
		for _, width := range []int{1, 2, 40, api.MaxWidth} {
			refuseRagged(t, same(c.words, 2), c.many, width, api.ErrShape)
		}
	}
}

// TestErrorsInOrder: what is wrong with the words is told ahead of the width, and that ahead of what is wrong with many.
func TestErrorsInOrder(t *testing.T) {
	wrongWords := []struct {
		words []string
		want  api.Errno
	}{
		{same(61, 1), api.ErrFull},
		{slices.Repeat([]string{""}, 61), api.ErrFull},
		{of(0), api.ErrSyntax},
		{of(21), api.ErrSyntax},
		{of(1, 21), api.ErrSyntax},
		{[]string{"a b"}, api.ErrSyntax},
		{[]string{"a", "\x7f"}, api.ErrSyntax},
		{append(same(59, 1), "\xff"), api.ErrSyntax},
	}
	wrongWidths := []int{math.MinInt, -100, -1, 0, 101, 102, 1000, 1<<32 + 1, math.MaxInt}
	rightWidths := []int{1, 2, 99, 100}
	wrongMany := [][]int{{0}, {-1, 2}, {100}, {math.MaxInt}, {math.MinInt}}
	for _, c := range wrongWords {
		right := slices.Repeat([]int{1}, len(c.words))
		for _, width := range append(wrongWidths, rightWidths...) {
			refuseFill(t, c.words, width, c.want)
			for _, many := range append(wrongMany, nil, right) {
				refuseRagged(t, c.words, many, width, c.want)
			}
		}
	}
	for _, words := range [][]string{nil, of(1), of(20), of(2, 1, 1), same(60, 20)} {
		right := slices.Repeat([]int{1}, len(words))
		for _, width := range wrongWidths {
			refuseFill(t, words, width, api.ErrRange)
			for _, many := range append(wrongMany, append(right, 1), right) {
				refuseRagged(t, words, many, width, api.ErrRange)
			}
		}
		for _, width := range rightWidths {
			for _, many := range append(wrongMany, append(right, 1)) {
				refuseRagged(t, words, many, width, api.ErrShape)
			}
			if got, want := ragged(t, words, right, width), raggedOf(linesOf(words, right), width); got != want {
				t.Errorf("%q, %d: %d, want %d", words, width, got, want)
			}
			if got, want := fill(t, words, width), swept(words, width); !slices.Equal(got, want) {
				t.Errorf("%q, %d: %q, want %q", words, width, got, want)
			}
		}
	}
}

func TestFill(t *testing.T) {
	for _, c := range []struct {
		words []string
		width int
		want  string // its lines, / between
	}{
		{of(1), 1, "a"},
		{of(1), 100, "a"},
		{of(2, 1, 1), 1, "aa/b/c"},
		{of(2, 1, 1), 3, "aa/b c"},
		{of(2, 1, 1), 4, "aa b/c"},
		{of(2, 1, 1), 5, "aa b/c"},
		{of(2, 1, 1), 6, "aa b c"},
		{of(2, 1, 1), 100, "aa b c"},
		// A word that is longer than the width is alone, for each byte behind it would cost 1000.
		{of(20), 1, strings.Repeat("a", 20)},
		{of(1, 20, 1), 5, "a/" + strings.Repeat("b", 20) + "/c"},
		{of(1, 20, 1), 20, "a/" + strings.Repeat("b", 20) + "/c"},
		// Who takes what fits first pays for it behind.
		{of(3, 2, 2, 5), 6, "aaa/bb cc/ddddd"},
		{of(3, 2, 2, 5), 7, "aaa/bb cc/ddddd"},
		// A line that is a byte too long is better than several that are far too short.
		{of(20, 17, 19, 17, 20, 17, 19), 57, strings.Join(linesOf(of(20, 17, 19, 17, 20, 17, 19), []int{3, 3, 1}), "/")},
		{of(20, 17, 19, 17, 20, 17, 19), 56, strings.Join(linesOf(of(20, 17, 19, 17, 20, 17, 19), []int{2, 2, 2, 1}), "/")},
		// Of several that are as bad: the first line has the most words, then the second one.
		{of(1, 1, 1), 3, "a b/c"},
		{of(1, 1, 1, 1), 3, "a b/c d"},
		{of(1, 1, 1, 1), 5, "a b c/d"},
		{of(1, 1, 1), 4, "a b/c"},
		{of(1, 1, 1, 1, 1), 4, "a b/c d/e"},
	} {
		got := fill(t, c.words, c.width)
		if strings.Join(got, "/") != c.want || !slices.Equal(got, tried(c.words, shares(len(c.words)), c.width)) {
			t.Errorf("Fill(%q, %d): %q, want %q", c.words, c.width, got, c.want)
		}
	}
}

func TestFillNoWords(t *testing.T) {
	for _, words := range [][]string{nil, {}, of(1, 2)[:0]} {
		for width := 1; width <= api.MaxWidth; width++ {
			if got := fill(t, words, width); len(got) != 0 {
				t.Errorf("no words, %d: %q", width, got)
			}
		}
	}
}

// TestFillOneWord: it is its line, however long it and the line are.
func TestFillOneWord(t *testing.T) {
	for long := 1; long <= api.MaxWord; long++ {
		for width := 1; width <= api.MaxWidth; width++ {
			words := of(long)
			if got := fill(t, words, width); !slices.Equal(got, words) {
				t.Errorf("%q, %d: %q", words, width, got)
			}
		}
	}
}

// longs are all rows of n numbers, each one of some.
func longs(n int, some ...int) [][]int {
	all := [][]int{nil}
	for range n {
		var more [][]int
		for _, row := range all {
			for _, long := range some {
				more = append(more, append(slices.Clone(row), long))
			}
		}
		all = more
	}
	return all
}

// TestFillOfAll: all short rows of words, against all their lines.
func TestFillOfAll(t *testing.T) {
	ties := 0
	for n := range 7 {
		all := shares(n)
		for _, row := range longs(n, 1, 2, 5) {
			words := of(row...)
			for _, width := range []int{1, 2, 3, 4, 5, 6, 7, 8, 9, 11, 14, 19} {
				got, want := fill(t, words, width), tried(words, all, width)
				if !slices.Equal(got, want) {
					t.Fatalf("%q, %d: %q, want %q", words, width, got, want)
				}
				if isTied(words, all, width) {
					ties++
				}
			}
		}
	}
	if ties < 100 {
		t.Errorf("only %d times several lines were as bad", ties)
	}
}

// isTied tells whether several lines of words are the least bad.
func isTied(words []string, all [][]int, width int) bool {
	least, count := math.MaxInt, 0
	for _, many := range all {
		b := raggedOf(linesOf(words, many), width)
		if b < least {
			least, count = b, 0
		}
		if b == least {
			count++
		}
	}
	return count > 1
}

// TestFillOfSome: words of all lengths, up to 11 of them, against all their lines.
func TestFillOfSome(t *testing.T) {
	r := rand.New(rand.NewSource(6))
	for n := range 12 {
		all := shares(n)
		for range 6 {
			words := someWords(r, n)
			for range 12 {
				width := 1 + r.Intn(1+r.Intn(api.MaxWidth))
				if got, want := fill(t, words, width), tried(words, all, width); !slices.Equal(got, want) {
					t.Fatalf("%q, %d: %q, want %q", words, width, got, want)
				}
			}
		}
	}
}

// TestFillAtAllWidths: some words, at all widths, against all their lines.
func TestFillAtAllWidths(t *testing.T) {
	for _, words := range [][]string{of(20), of(1, 1), of(20, 20), of(2, 1, 1), of(20, 1, 20, 1, 20), of(7, 7, 7, 7, 7, 7, 7), of(20, 19, 18, 17, 16, 15, 14), strings.Fields("of all the ways that there are the one that costs")} {
		all := shares(len(words))
		for width := 1; width <= api.MaxWidth; width++ {
			if got, want := fill(t, words, width), tried(words, all, width); !slices.Equal(got, want) {
				t.Errorf("%q, %d: %q, want %q", words, width, got, want)
			}
		}
	}
}

// manyOf gives how many words stand in each line.
func manyOf(lines []string) []int {
	var many []int
	for _, line := range lines {
		many = append(many, len(strings.Split(line, " ")))
	}
	return many
}

// TestFillLarge: up to 60 words, of which there are far more lines than can be tried, in little time.
func TestFillLarge(t *testing.T) {
	r := rand.New(rand.NewSource(7))
	rows := [][]string{same(60, 1), same(60, 2), same(60, 7), same(60, 19), same(60, 20), same(59, 3), append(same(59, 1), of(20)...)}
	for range 12 {
		rows = append(rows, someWords(r, 60), someWords(r, 12+r.Intn(48)))
	}
	for _, words := range rows {
		for width := 1; width <= api.MaxWidth; width++ {
			got := fill(t, words, width)
			if want := swept(words, width); !slices.Equal(got, want) {
				t.Fatalf("%q, %d: %q, want %q", words, width, got, want)
			}
			if !slices.Equal(strings.Split(strings.Join(got, " "), " "), words) {
				t.Fatalf("%q, %d: other words: %q", words, width, got)
			}
			if b := ragged(t, words, manyOf(got), width); b != raggedOf(got, width) {
				t.Fatalf("%q, %d: %d, want %d", words, width, b, raggedOf(got, width))
			}
		}
	}
	if got := manyOf(fill(t, same(60, 1), 100)); !slices.Equal(got, []int{50, 10}) {
		t.Errorf("60 words of a byte: %v", got)
	}
	if got := manyOf(fill(t, same(60, 20), 1)); !slices.Equal(got, slices.Repeat([]int{1}, 60)) {
		t.Errorf("60 words of 20 bytes: %v", got)
	}
}

// TestFreshMemory: what comes out is the caller's, whatever becomes of another answer or of the words.
func TestFreshMemory(t *testing.T) {
	for _, words := range [][]string{of(3), of(20, 20, 20), of(2, 1, 1, 4, 4), same(60, 3)} {
		kept := slices.Clone(fill(t, words, 8))
		first, second := fill(t, words, 8), fill(t, words, 8)
		seen := map[*byte]string{}
		for _, texts := range [][]string{words, first, second} {
			for _, text := range texts {
				if other, is := seen[unsafe.StringData(text)]; is {
					t.Errorf("%q and %q share memory", text, other)
				}
				seen[unsafe.StringData(text)] = text
			}
		}
		if &first[0] == &second[0] || &first[0] == &words[0] {
			t.Errorf("%q: lists share memory", words)
		}
		for i := range first[:cap(first)] {
			first[:cap(first)][i] = "x"
		}
		clear(words)
		if !slices.Equal(second, kept) {
			t.Errorf("%q was %q", second, kept)
		}
	}
}

// TestNothingIsKept: what is asked next hangs on nothing that was asked ahead of it.
func TestNothingIsKept(t *testing.T) {
	words, many := of(2, 1, 1), []int{1, 2}
	want := fmt.Sprint(fill(t, words, 4), ragged(t, words, many, 4))
	fill(t, same(60, 5), 30)
	refuseFill(t, of(21), 4, api.ErrSyntax)
	refuseRagged(t, words, []int{4}, 4, api.ErrShape)
	if got := fmt.Sprint(fill(t, words, 4), ragged(t, words, many, 4)); got != want {
		t.Errorf("%s was %s", got, want)
	}
	words[0], many[0], many[1] = "aaaa", 2, 1
	if got := fmt.Sprint(fill(t, words, 4), ragged(t, words, many, 4)); got != "[aaaa b c] 2000" {
		t.Errorf("of other words: %s", got)
	}
}

// TestBehindTheLength: what lies behind a list's length is neither read nor written.
func TestBehindTheLength(t *testing.T) {
	words, many := append(of(2, 1, 1), "", "a b"), []int{1, 2, 0, -7}
	keptWords, keptMany := slices.Clone(words), slices.Clone(many)
	if err := Check(words[:3]); err != nil {
		t.Errorf("Check of three: %v", err)
	}
	if got := fill(t, words[:3], 4); !slices.Equal(got, []string{"aa b", "c"}) {
		t.Errorf("%q", got)
	}
	if got := ragged(t, words[:3], many[:2], 4); got != 4 {
		t.Errorf("%d", got)
	}
	refuseRagged(t, words[:3], many[:1], 4, api.ErrShape)
	refuseRagged(t, words[:2], many[:2], 4, api.ErrShape)
	full := same(70, 1)
	if got := fill(t, full[:60], 100); !slices.Equal(manyOf(got), []int{50, 10}) {
		t.Errorf("%q", got)
	}
	if !slices.Equal(words, keptWords) || !slices.Equal(many, keptMany) || !slices.Equal(full, same(70, 1)) {
		t.Errorf("%q was %q, %v was %v", words, keptWords, many, keptMany)
	}
}
