package cost

import (
	"math"
	"slices"
	"strings"
	"testing"

	"pargetry/api"
	"pargetry/plain"
)

const top = api.MaxCost

// wrongCosts are out of range by one field, just so and by far; edge values of the other field do not mend it.
func wrongCosts() []api.Cost {
	var out []api.Cost
	for _, wrong := range []int{-1, top + 1, math.MinInt, math.MaxInt} {
		for _, right := range []int{0, 1, top} {
			out = append(out, api.Cost{Over: wrong, Lines: right}, api.Cost{Over: right, Lines: wrong})
		}
		out = append(out, api.Cost{Over: wrong, Lines: wrong})
	}
	return out
}

// rightCosts are all costs whose fields stand at or beside an edge, or between.
func rightCosts() []api.Cost {
	values := []int{0, 1, 2, top / 2, top - 1, top}
	var out []api.Cost
	for _, over := range values {
		for _, lines := range values {
			out = append(out, api.Cost{Over: over, Lines: lines})
		}
	}
	return out
}

func TestNumbers(t *testing.T) {
	if api.MaxCost != 1000000 || api.MaxText != 60000 || api.MaxWidth != 100 {
		t.Errorf("MaxCost %d, MaxText %d, MaxWidth %d", api.MaxCost, api.MaxText, api.MaxWidth)
	}
}

func TestLess(t *testing.T) {
	for _, c := range []struct {
		a, b api.Cost
		want bool
	}{
		{api.Cost{}, api.Cost{}, false},
		{api.Cost{Over: 1}, api.Cost{Over: 2}, true},
		{api.Cost{Over: 2}, api.Cost{Over: 1}, false},
		{api.Cost{Lines: 1}, api.Cost{Lines: 2}, true},
		{api.Cost{Lines: 2}, api.Cost{Lines: 1}, false},
		{api.Cost{Over: 3, Lines: 1}, api.Cost{Over: 3, Lines: 2}, true},
		{api.Cost{Over: 3, Lines: 2}, api.Cost{Over: 3, Lines: 2}, false},
		{api.Cost{Lines: 5}, api.Cost{Over: 1}, true},
		{api.Cost{Over: 1}, api.Cost{Lines: 5}, false},
		{api.Cost{Lines: top}, api.Cost{Over: 1}, true},
		{api.Cost{Over: top, Lines: top - 1}, api.Cost{Over: top, Lines: top}, true},
		{api.Cost{Over: top, Lines: top}, api.Cost{Over: top, Lines: top}, false},
	} {
		got, err := Less(c.a, c.b)
		if got != c.want || err != nil {
			t.Errorf("Less(%v, %v): got %v %v, want %v", c.a, c.b, got, err, c.want)
		}
	}
}

// TestLessIsAnOrder: of two costs one is less, or they are the same, and what is less than a lesser one is less.
func TestLessIsAnOrder(t *testing.T) {
	all := rightCosts() // made in rising order
	for i, a := range all {
		for k, b := range all {
			got, err := Less(a, b)
			if got != (i < k) || err != nil {
				t.Errorf("Less(%v, %v): got %v %v, want %v", a, b, got, err, i < k)
			}
		}
	}
}

func TestLessWrong(t *testing.T) {
	for _, wrong := range wrongCosts() {
		for _, other := range append(rightCosts(), wrong) {
			for _, pair := range [][2]api.Cost{{wrong, other}, {other, wrong}} {
				got, err := Less(pair[0], pair[1])
				if got || plain.Told(err) != api.ErrRange {
					t.Fatalf("Less(%v, %v): got %v %v, want false ErrRange", pair[0], pair[1], got, err)
				}
			}
		}
	}
}

func TestAdd(t *testing.T) {
	for _, c := range []struct {
		a, b, want api.Cost
		told       api.Errno
	}{
		{api.Cost{}, api.Cost{}, api.Cost{}, api.OK},
		{api.Cost{Over: 1}, api.Cost{Lines: 2}, api.Cost{Over: 1, Lines: 2}, api.OK},
		{api.Cost{Over: 1, Lines: 20}, api.Cost{Over: 3, Lines: 40}, api.Cost{Over: 4, Lines: 60}, api.OK},
		{api.Cost{Over: top}, api.Cost{Lines: top}, api.Cost{Over: top, Lines: top}, api.OK},
		{api.Cost{Over: top - 1}, api.Cost{Over: 1}, api.Cost{Over: top}, api.OK},
		{api.Cost{Lines: 1}, api.Cost{Lines: top - 1}, api.Cost{Lines: top}, api.OK},
		{api.Cost{Over: top}, api.Cost{Over: 1}, api.Cost{}, api.ErrRange},
		{api.Cost{Over: 7, Lines: 1}, api.Cost{Over: 7, Lines: top}, api.Cost{}, api.ErrRange},
		{api.Cost{Over: top, Lines: top}, api.Cost{Over: top, Lines: top}, api.Cost{}, api.ErrRange},
		{api.Cost{Over: -1}, api.Cost{Over: 1}, api.Cost{}, api.ErrRange},
		{api.Cost{Lines: top + 1}, api.Cost{Lines: -1}, api.Cost{}, api.ErrRange},
		{api.Cost{Over: math.MinInt}, api.Cost{Over: math.MinInt}, api.Cost{}, api.ErrRange},
	} {
		got, err := Add(c.a, c.b)
		if got != c.want || plain.Told(err) != c.told {
			t.Errorf("Add(%v, %v): got %v %v, want %v %v", c.a, c.b, got, err, c.want, c.told)
		}
	}
}

func TestAddAtEdges(t *testing.T) {
	for _, a := range rightCosts() {
		for _, b := range rightCosts() {
			want, told := api.Cost{Over: a.Over + b.Over, Lines: a.Lines + b.Lines}, api.OK
			if want.Over > top || want.Lines > top {
				want, told = api.Cost{}, api.ErrRange
			}
			got, err := Add(a, b)
			if got != want || plain.Told(err) != told {
				t.Errorf("Add(%v, %v): got %v %v, want %v %v", a, b, got, err, want, told)
			}
		}
	}
}

func TestAddWrong(t *testing.T) {
	for _, wrong := range wrongCosts() {
		for _, other := range append(rightCosts(), wrongCosts()...) {
			for _, pair := range [][2]api.Cost{{wrong, other}, {other, wrong}} {
				got, err := Add(pair[0], pair[1])
				if got != (api.Cost{}) || plain.Told(err) != api.ErrRange {
					t.Fatalf("Add(%v, %v): got %v %v, want {0 0} ErrRange", pair[0], pair[1], got, err)
				}
			}
		}
	}
}

func TestOf(t *testing.T) {
	for _, c := range []struct {
		text        string
		width       int
		over, lines int
	}{
		{"", 0, 0, 0},
		{"", 100, 0, 0},
		{"\n", 0, 0, 1},
		{"\n\n\n", 5, 0, 3},
		{"abc", 3, 0, 0},
		{"abc", 2, 1, 0},
		{"abc", 0, 3, 0},
		{"abc\nd", 2, 1, 1},
		{"abc\nd\n", 2, 1, 2},
		{"\nabc", 2, 1, 1},
		// A short line gives nothing of its room to a long one.
		{"abcd\na\nabcde", 3, 3, 2},
		// Bytes are counted, not runes, and no byte but 10 ends a line.
		{"\u00e9\u00e9", 3, 1, 0},
		{"\xff\xfe\x80", 1, 2, 0},
		{"a\r\nb\r", 1, 2, 1},
		{"a\x00\v\f\u0085\u2028b", 0, 10, 0},
		{"  \t ", 1, 3, 0},
		{strings.Repeat("x", 100), 100, 0, 0},
		{strings.Repeat("x", 101), 100, 1, 0},
		{strings.Repeat("x", 100), 99, 1, 0},
	} {
		got, err := Of(c.text, c.width)
		if want := (api.Cost{Over: c.over, Lines: c.lines}); got != want || err != nil {
			t.Errorf("Of(%q, %d): got %v %v, want %v", c.text, c.width, got, err, want)
		}
	}
}

func TestOfAtEdges(t *testing.T) {
	long := strings.Repeat("x", api.MaxText)
	breaks := strings.Repeat("\n", api.MaxText)
	for _, c := range []struct {
		text  string
		width int
		want  api.Cost
		told  api.Errno
	}{
		{long, 0, api.Cost{Over: api.MaxText}, api.OK},
		{long, api.MaxWidth, api.Cost{Over: api.MaxText - api.MaxWidth}, api.OK},
		{breaks, 0, api.Cost{Lines: api.MaxText}, api.OK},
		{long + "x", 0, api.Cost{}, api.ErrFull},
		{long + "\n", api.MaxWidth, api.Cost{}, api.ErrFull},
		{breaks + "\n", 50, api.Cost{}, api.ErrFull},
		{long, -1, api.Cost{}, api.ErrRange},
		{"a", api.MaxWidth + 1, api.Cost{}, api.ErrRange},
		{"", -1, api.Cost{}, api.ErrRange},
		{"a\nb", math.MinInt, api.Cost{}, api.ErrRange},
		{"a\nb", math.MaxInt, api.Cost{}, api.ErrRange},
		// ErrFull is named ahead of ErrRange.
		{long + "x", -1, api.Cost{}, api.ErrFull},
		{long + "x", api.MaxWidth + 1, api.Cost{}, api.ErrFull},
	} {
		got, err := Of(c.text, c.width)
		if got != c.want || plain.Told(err) != c.told {
			t.Errorf("Of(%d bytes, %d): got %v %v, want %v %v", len(c.text), c.width, got, err, c.want, c.told)
		}
	}
}

// plainOf counts byte by byte, without lines: what Of should say.
func plainOf(text string, width int) api.Cost {
	c, column := api.Cost{}, 0
	for i := range len(text) {
		if text[i] == 10 {
			c.Lines, column = c.Lines+1, 0
			continue
		}
		column++
		if column > width {
			c.Over++
		}
	}
	return c
}

// TestOfAllShortTexts: all texts of up to 7 bytes of two kinds, at all widths that matter.
func TestOfAllShortTexts(t *testing.T) {
	texts := []string{""}
	for i := 0; len(texts[i]) < 7; i++ {
		texts = append(texts, texts[i]+"x", texts[i]+"\n")
	}
	for _, text := range texts {
		for width := range 9 {
			got, err := Of(text, width)
			if want := plainOf(text, width); got != want || err != nil {
				t.Fatalf("Of(%q, %d): got %v %v, want %v", text, width, got, err, want)
			}
		}
	}
}

// TestOfWider: with more room a text costs no more.
func TestOfWider(t *testing.T) {
	text := strings.Repeat("ab\n", 9) + strings.Repeat("y", 130) + "\n" + strings.Repeat("z", 70)
	last, err := Of(text, 0)
	for width := 1; err == nil && width <= api.MaxWidth; width++ {
		var next api.Cost
		next, err = Of(text, width)
		if more, _ := Less(last, next); more || next != plainOf(text, width) {
			t.Errorf("width %d: %v behind %v", width, next, last)
		}
		last = next
	}
	if err != nil {
		t.Error(err)
	}
}

func TestLines(t *testing.T) {
	for _, text := range []string{"", "\n", "a", "a\n", "\na", "a\n\nb", "ab\ncd\n\n"} {
		seq := Lines(text)
		want := strings.Split(text, "\n")
		for range 2 {
			if got := slices.Collect(seq); !slices.Equal(got, want) {
				t.Errorf("Lines(%q): got %q, want %q", text, got, want)
			}
		}
		for line := range seq {
			if line != want[0] {
				t.Errorf("Lines(%q): first is %q, want %q", text, line, want[0])
			}
			break
		}
	}
}
