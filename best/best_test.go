package best

import (
	"math"
	"math/rand"
	"slices"
	"strings"
	"testing"
	"time"
	"unsafe"

	"pargetry/api"
	"pargetry/cost"
	"pargetry/doc"
	"pargetry/flat"
	"pargetry/plain"
	"pargetry/way"
)

// read makes a doc of its text (chapter 2's), right or wrong. Its nodes stand in the text in their order, so brackets that close tell nothing.
func read(text string) []api.Node {
	ops := map[byte]int{'_': api.Blank, '.': api.Soft, '/': api.Line, '0': api.Zero, '(': api.Both, '[': api.Group, '{': api.Either}
	var d []api.Node
	for i := 0; i < len(text); i++ {
		c := text[i]
		switch {
		case c == '"':
			n := strings.IndexByte(text[i+1:], '"')
			d = append(d, api.Node{Op: api.Word, Text: text[i+1 : i+1+n]})
			i += n + 1
		case i+1 < len(text) && text[i+1] == '>':
			d = append(d, api.Node{Op: api.Deep, N: int(c - '0')})
			i++
		case ops[c] != 0:
			d = append(d, api.Node{Op: ops[c]})
		}
	}
	return d
}

// row is the text of docs one behind the other.
func row(docs ...string) string {
	last := len(docs) - 1
	if last == 0 {
		return docs[0]
	}
	return "(" + strings.Join(docs[:last], "(") + docs[last] + strings.Repeat(")", last)
}

// rowOf is the text of a doc n times one behind the other.
func rowOf(n int, doc string) string { return row(slices.Repeat([]string{doc}, n)...) }

// oneOf is the text of a doc of n ways, of which one costs least: words, of which the last one is the shortest.
func oneOf(n int) string {
	return strings.Repeat(`{"abc"|`, n-1) + `"a"` + strings.Repeat("}", n-1)
}

// within is the text of a doc n times within Group.
func within(n int, doc string) string {
	return strings.Repeat("[", n) + doc + strings.Repeat("]", n)
}

// answer is all that Best answers of a right doc.
type answer struct {
	text string
	way  []int
	cost api.Cost
}

func (x answer) equal(y answer) bool {
	return x.text == y.text && slices.Equal(x.way, y.way) && x.cost == y.cost
}

// ask gives what Best answers of a doc that is right, and holds the doc against what it was.
func ask(t *testing.T, d []api.Node, width int) answer {
	t.Helper()
	kept := slices.Clone(d)
	var got answer
	var err error
	got.text, got.way, got.cost, err = Best(d, width)
	if err != nil {
		t.Fatalf("Best of %s, %d: %v", textOf(d), width, err)
	}
	if !slices.Equal(d, kept) {
		t.Fatalf("%v was %v", d, kept)
	}
	return got
}

func textOf(d []api.Node) string {
	text, _ := doc.Text(d)
	return text
}

// tried is the best of all ways, each of them tried.
func tried(t *testing.T, d []api.Node, width int) answer {
	t.Helper()
	ways, err := way.All(d)
	if err != nil {
		t.Fatalf("All of %s: %v", textOf(d), err)
	}
	var best answer
	for i, w := range ways {
		text, errShow := way.Show(d, w)
		c, errOf := cost.Of(text, width)
		less, errLess := cost.Less(c, best.cost)
		if errShow != nil || errOf != nil || errLess != nil {
			t.Fatalf("%v of %s: %v, %v, %v", w, textOf(d), errShow, errOf, errLess)
		}
		if i == 0 || less {
			best = answer{text, w, c}
		}
	}
	return best
}

// held is the best beginning of all ways that end in one column.
type held struct {
	cost api.Cost
	way  string
}

// ends has what is held of each column, however far it is.
type ends map[int]held

// add holds a beginning, if there is none in its column that is cheaper, or costs as much and stands ahead.
func (e ends) add(column int, h held) {
	old, is := e[column]
	less, _ := cost.Less(h.cost, old.cost)
	if !is || less || h.cost == old.cost && h.way < old.way {
		e[column] = h
	}
}

// written has bytes put behind all beginnings.
func (e ends) written(n, width int) ends {
	out := ends{}
	for column, h := range e {
		h.cost.Over += max(column+n-width, 0) - max(column-width, 0)
		out.add(column+n, h)
	}
	return out
}

// broken has a new line put behind all beginnings.
func (e ends) broken(deep, width int) ends {
	out := ends{}
	for _, h := range e {
		h.cost.Lines++
		h.cost.Over += max(deep-width, 0)
		out.add(deep, h)
	}
	return out
}

// chosen has a choice put behind all beginnings.
func (e ends) chosen(choice string) ends {
	out := ends{}
	for column, h := range e {
		h.way += choice
		out.add(column, h)
	}
	return out
}

func (e ends) with(other ends) ends {
	for column, h := range other {
		e.add(column, h)
	}
	return e
}

// swept has a doc laid behind all beginnings, from the left, where Best seeks from the right: another road to the same.
func swept(d []api.Node, deep, width int, from ends) ends {
	second := 1
	if d[0].Op == api.Both || d[0].Op == api.Either {
		second, _ = doc.End(d, 1)
	}
	switch d[0].Op {
	case api.Word:
		return from.written(len(d[0].Text), width)
	case api.Blank, api.Soft, api.Line:
		return from.broken(deep, width)
	case api.Both:
		return swept(d[second:], deep, width, swept(d[1:second], deep, width, from))
	case api.Deep:
		return swept(d[1:], deep+d[0].N, width, from)
	case api.Group:
		out := swept(d[1:], deep, width, from.chosen("1"))
		if n, is, _ := flat.Long(d); is {
			out = out.with(from.chosen("0").written(n, width))
		}
		return out
	case api.Either:
		out := swept(d[1:second], deep, width, from.chosen("0"))
		return out.with(swept(d[second:], deep, width, from.chosen("1")))
	}
	return from
}

// sweptWhole is the best of all ways, however many, by beginnings.
func sweptWhole(t *testing.T, d []api.Node, width int) answer {
	t.Helper()
	one := ends{}
	for _, h := range swept(d, 0, width, ends{0: {}}) {
		one.add(0, h)
	}
	var choices []int
	for _, c := range one[0].way {
		choices = append(choices, int(c-'0'))
	}
	text, err := way.Show(d, choices)
	if err != nil {
		t.Fatalf("Show of %s, %v: %v", textOf(d), choices, err)
	}
	return answer{text, choices, one[0].cost}
}

func TestBest(t *testing.T) {
	for _, c := range []struct {
		doc   string
		width int
		want  answer
	}{
		{`"abc"`, 3, answer{"abc", nil, api.Cost{}}},
		{`"abc"`, 2, answer{"abc", nil, api.Cost{Over: 1}}},
		{`_`, 0, answer{"\n", nil, api.Cost{Lines: 1}}},
		{`.`, 0, answer{"\n", nil, api.Cost{Lines: 1}}},
		{`/`, 0, answer{"\n", nil, api.Cost{Lines: 1}}},
		{`0`, 0, answer{"", nil, api.Cost{}}},
		{`3>("a"/)`, 2, answer{"a\n   ", nil, api.Cost{Over: 1, Lines: 1}}},
		{`["a"]`, 0, answer{"a", []int{0}, api.Cost{Over: 1}}},
		{`{"ab"|"c"}`, 2, answer{"ab", []int{0}, api.Cost{}}},
		{`{"ab"|"c"}`, 1, answer{"c", []int{1}, api.Cost{}}},
		{`[("ab"(_"c"))]`, 4, answer{"ab c", []int{0}, api.Cost{}}},
		{`[("ab"(_"c"))]`, 3, answer{"ab\nc", []int{1}, api.Cost{Lines: 1}}},
		{`[("ab"(_"c"))]`, 1, answer{"ab\nc", []int{1}, api.Cost{Over: 1, Lines: 1}}},
		// A byte too many weighs more than any number of lines.
		{`{"ab"|(/(/(/(/"a"))))}`, 1, answer{"\n\n\n\na", []int{1}, api.Cost{Lines: 4}}},
		// Deeper, a new line has less room: here it is none that helps.
		{`3>[("ab"(_"c"))]`, 3, answer{"ab c", []int{0}, api.Cost{Over: 1}}},
		{`3>[("abc"(_"c"))]`, 3, answer{"abc\n   c", []int{1}, api.Cost{Over: 1, Lines: 1}}},
		{`2>("a"(_3>("b"(_"c"))))`, 5, answer{"a\n  b\n     c", nil, api.Cost{Over: 1, Lines: 2}}},
		// The outer group breaks so that the inner one fits.
		{`[("aa"(_[("bb"(_"cc"))]))]`, 8, answer{"aa bb cc", []int{0}, api.Cost{}}},
		{`[("aa"(_[("bb"(_"cc"))]))]`, 7, answer{"aa\nbb cc", []int{1, 0}, api.Cost{Lines: 1}}},
		{`[("aa"(_[("bb"(_"cc"))]))]`, 4, answer{"aa\nbb\ncc", []int{1, 1}, api.Cost{Lines: 2}}},
		// Who takes what fits first pays for it behind: the first group would fit flat.
		{`([("aa"(.0))]{("bbbb"("cc"/))|"dddddd"})`, 6, answer{"aa\ndddddd", []int{1, 1}, api.Cost{Lines: 1}}},
		// The first part of the Either is cheaper, were it not for the word behind it.
		{`({"ab"|("cdef"(/"g"))}"hij")`, 4, answer{"cdef\nghij", []int{1}, api.Cost{Lines: 1}}},
		// In a flat group an Either is its first part.
		{`[({"abc"|"d"}_)]`, 4, answer{"abc ", []int{0}, api.Cost{}}},
		{`[({"abc"|"d"}_)]`, 3, answer{"abc\n", []int{1, 0}, api.Cost{Lines: 1}}},
		{`[({"abc"|"d"}_)]`, 2, answer{"d\n", []int{1, 1}, api.Cost{Lines: 1}}},
		{`[({"abc"|/}"d")]`, 3, answer{"\nd", []int{1, 1}, api.Cost{Lines: 1}}},
		// Indentation counts, also where nothing stands behind it.
		{`8>{/|"abcdefg"}`, 4, answer{"abcdefg", []int{1}, api.Cost{Over: 3}}},
		{`8>{/|"abcdefg"}`, 8, answer{"abcdefg", []int{1}, api.Cost{}}},
		{`8>{/|"abcdefg"}`, 3, answer{"abcdefg", []int{1}, api.Cost{Over: 4}}},
		{`5>{/|"abcdefg"}`, 3, answer{"\n     ", []int{0}, api.Cost{Over: 2, Lines: 1}}},
	} {
		if got := ask(t, read(c.doc), c.width); !got.equal(c.want) {
			t.Errorf("%s, %d: %v, want %v", c.doc, c.width, got, c.want)
		}
	}
}

// TestFirstOfSeveral: of ways that cost as much the one that has 0 where they first differ.
func TestFirstOfSeveral(t *testing.T) {
	for _, c := range []struct {
		doc  string
		want []int
	}{
		{`{"a"|"b"}`, []int{0}},
		{`["a"]`, []int{0}},
		{`[0]`, []int{0}},
		{`[[["a"]]]`, []int{0}},
		{`({"a"|"b"}{"c"|"d"})`, []int{0, 0}},
		{`{{"a"|"b"}|{"c"|"d"}}`, []int{0, 0}},
		{`{/|_}`, []int{0}},
		{`{[/]|/}`, []int{0, 1}},
		{`[{/|/}]`, []int{1, 0}},
		{`[(/["a"])]`, []int{1, 0}},
		// Here or there a new line is needed: not here, so that the first choice is 0.
		{`("aa"([.]("aa"([.]"aa"))))`, []int{0, 1}},
		{`("aa"([_]("a"([_]"aa"))))`, []int{0, 1}},
		{`({"aa"|"a"}{"aaa"|"aa"})`, []int{0, 1}},
		// A shorter way is not ahead for its length.
		{`{["a"]|"a"}`, []int{0, 0}},
		{`{{{"a"|"a"}|"a"}|"a"}`, []int{0, 0, 0}},
	} {
		d := read(c.doc)
		if got := ask(t, d, 4); !slices.Equal(got.way, c.want) || !got.equal(tried(t, d, 4)) {
			t.Errorf("%s: %v, want %v", c.doc, got, c.want)
		}
	}
}

// manyDocs have every kind of node, in every kind of node.
func manyDocs() []string {
	all := []string{`"a"`, `"abcdefghij"`, `_`, `.`, `/`, `0`}
	for range 2 {
		inner := all[max(len(all)-12, 0):]
		for i, x := range inner {
			y := inner[(i+5)%len(inner)]
			all = append(all, "("+x+y+")", "{"+x+"|"+y+"}", "["+x+"]", "3>"+x, "0>[("+y+`("xyz"`+x+"))]")
		}
	}
	return append(all,
		// Deep within Deep.
		`2>("a"(_5>("b"(_8>("c"(/"d"))))))`,
		`2>[("aaaa"(_5>[("bbbb"(_8>[("cccc"(_"d"))]))]))]`,
		`8>(8>(8>/[("a"(_"bb"))])[("ccc"(_"dddd"))])`,
		`4>("a"([_](4>([_]"b")([_]"c"))))`,
		// Groups within groups.
		`[("f("(2>(.[("g("(2>(."x")(.")")))])(.")")))]`,
		`[("aaa"(_[("bbb"(_[("ccc"(_[("ddd"(_"eee"))]))]))]))]`,
		`[([("a"(_"b"))](_[("c"(_"d"))]))]`,
		// A group within an Either, an Either within a group.
		`{[("aaaa"(_"bbb"))]|("cc"([("ddd"(_"e"))]/))}`,
		`[("aaa"(_{("bb"(_"cc"))|"dddddddd"}))]`,
		`[{[("aa"(_"bb"))]|2>(/[("aa"(_"bb"))])}]`,
		`{[{"abcdef"|("abc"(/"def"))}]|[{("x"(_"y"))|_}]}`,
		// A Line in a group, and where it does not count.
		`[("aaa"(/"bbb"))]`,
		`[([("a"(_"b"))](/[("c"(_"d"))]))]`,
		`([{"aaaaa"|/}]([{/|"aaaaa"}][/]))`,
		// Words in lines.
		rowOf(6, `("word"[_])`),
		rowOf(3, `{"a"|{"bbb"|("cc"/)}}`),
		rowOf(4, `{("abcde"[.])|2>(/"abc")}`))
}

func TestManyDocsAtAllWidths(t *testing.T) {
	for _, text := range manyDocs() {
		d := read(text)
		if textOf(d) != text {
			t.Fatalf("%s was read as %s", text, textOf(d))
		}
		for width := range api.MaxWidth + 1 {
			if got, want := ask(t, d, width), tried(t, d, width); !got.equal(want) {
				t.Errorf("%s, %d: %v, want %v", text, width, got, want)
			}
		}
	}
}

// TestNumberOfWays: just so many as can be tried, one more, which All refuses, and one alone.
func TestNumberOfWays(t *testing.T) {
	for _, c := range []struct {
		doc  string
		ways int
	}{
		{`("a"(_("b"/)))`, 1},
		{within(399, "/"), 1},
		{rowOf(200, `/`), 1},
		{`(` + oneOf(15) + oneOf(20) + `)`, 300},
		{within(299, `"a"`), 300},
		{`[(` + oneOf(13) + oneOf(23) + `)]`, 300},
		{`{` + oneOf(150) + `|"aa"}`, 151},
		{`(` + oneOf(7) + oneOf(43) + `)`, 301},
		{within(300, `_`), 301},
		{`{"ab"|(` + oneOf(15) + oneOf(20) + `)}`, 301},
		{within(399, `"a"`), 400},
	} {
		d := read(c.doc)
		ways, err := way.All(d)
		if c.ways <= api.MaxWays && len(ways) != c.ways || c.ways > api.MaxWays && plain.Told(err) != api.ErrFull {
			t.Fatalf("%d ways of %.30s: %d, %v", c.ways, c.doc, len(ways), err)
		}
		for _, width := range []int{0, 1, 2, 3, 4, 5, 6, 50, 100} {
			got := ask(t, d, width)
			if want := sweptWhole(t, d, width); !got.equal(want) {
				t.Errorf("%d ways of %.30s, %d: %v, want %v", c.ways, c.doc, width, got, want)
			}
			if c.ways <= api.MaxWays && !got.equal(tried(t, d, width)) {
				t.Errorf("%d ways of %.30s, %d: %v, want %v", c.ways, c.doc, width, got, tried(t, d, width))
			}
		}
	}
}

// greedy is how many new lines words have of which each line takes what fits: none has fewer, if every word fits.
func greedy(words []string, width int) int {
	lines, column := 0, len(words[0])
	for _, w := range words[1:] {
		column += 1 + len(w)
		if column > width {
			lines, column = lines+1, len(w)
		}
	}
	return lines
}

// TestWordsInLines: a doc of 396 nodes and 2^79 ways, of which it is known what the best one costs.
func TestWordsInLines(t *testing.T) {
	words := strings.Fields(strings.Repeat("as cheap as can be of all the ways there ", 9))[:80]
	parts := []string{`"` + words[0] + `"`}
	for _, w := range words[1:] {
		parts = append(parts, "[_]", `"`+w+`"`)
	}
	d := read(row(parts...))
	for width := 5; width <= api.MaxWidth; width++ {
		got := ask(t, d, width)
		if want := (api.Cost{Lines: greedy(words, width)}); got.cost != want || !slices.Equal(strings.Fields(got.text), words) {
			t.Errorf("width %d: %v, want %v", width, got, want)
		}
	}
}

// call is the text of a doc as a call has it, with two calls within it, n times within each other.
func call(n int) string {
	if n == 0 {
		return `"x1"`
	}
	return `[("name("(2>(.(` + call(n-1) + `(","(_` + call(n-1) + `))))(.")")))]`
}

// manyWays are docs of far more ways than can be tried, of up to 400 nodes.
func manyWays() []string {
	return []string{
		rowOf(80, `{"a"|"bcd"}`),
		rowOf(80, `{"aaaaaaaaaaaaaaaaaaaa"|"b"}`),
		rowOf(57, `({"abc"|_}["d"])`),
		rowOf(100, `["aaaaaaa"]`),
		rowOf(99, `2>[_]`),
		"[" + rowOf(66, `{[_]|"ab"}`) + "]",
		rowOf(40, `[("abc"(_{"defg"|.}))]`),
		within(150, rowOf(80, `[.]`)),
		strings.Repeat("3>", 80) + rowOf(53, `{"aa"|("b"/)}`),
		rowOf(19, call(1)),
		rowOf(6, call(2)),
		rowOf(3, call(3)),
		call(4),
		strings.Repeat(`([_]{"ab"|1>(`, 49) + `"end"` + strings.Repeat(`"cd")})`, 49),
		strings.Repeat(`([{"abc"|(_"d")}]`, 49) + `/` + strings.Repeat(")", 49),
	}
}

// hold holds Best against beginnings that are swept, and asks that it takes little time.
func hold(t *testing.T, d []api.Node, width int) answer {
	t.Helper()
	start := time.Now()
	got := ask(t, d, width)
	if took := time.Since(start); took > 5*time.Second {
		t.Fatalf("%s, %d: %v", textOf(d), width, took)
	}
	if want := sweptWhole(t, d, width); !got.equal(want) {
		t.Fatalf("%s, %d: %v, want %v", textOf(d), width, got, want)
	}
	return got
}

func TestManyWays(t *testing.T) {
	for _, text := range manyWays() {
		d := read(text)
		if textOf(d) != text || len(d) < 200 || len(d) > api.MaxNodes {
			t.Fatalf("%d nodes: %s was read as %s", len(d), text, textOf(d))
		}
		if _, err := way.All(d); plain.Told(err) != api.ErrFull {
			t.Fatalf("All of %s: %v", text, err)
		}
		for _, width := range []int{0, 1, 7, 30, 79, 100} {
			hold(t, d, width)
		}
	}
}

// TestSpotsAreFew: no more is found out than so much of each node, however many ways there are.
func TestSpotsAreFew(t *testing.T) {
	for _, text := range manyWays() {
		d := read(text)
		for _, width := range []int{0, 10, 100} {
			s := search{plan: newPlan(d, width), known: map[spot]course{}}
			s.seek(spot{})
			if len(s.known) > len(d)*(width+1) {
				t.Errorf("%s, %d: %d spots of %d nodes", text, width, len(s.known), len(d))
			}
		}
	}
}

// costOf is what a text costs, however long it is.
func costOf(text string, width int) api.Cost {
	c := api.Cost{Lines: strings.Count(text, "\n")}
	for line := range strings.SplitSeq(text, "\n") {
		c.Over += max(len(line)-width, 0)
	}
	return c
}

// TestLongTexts: longer than Of takes, up to the longest that a doc can have.
func TestLongTexts(t *testing.T) {
	for _, c := range []struct {
		doc  string
		long int
	}{
		{strings.Repeat("8>", 201) + rowOf(100, "/"), 160900},
		{strings.Repeat("8>", 160) + rowOf(60, "{_|/}"), 76860},
		{strings.Repeat("8>", 190) + "(" + rowOf(50, ".") + `{"aa"|"b"})`, 76051},
		{strings.Repeat("8>", 190) + "[(" + rowOf(50, "/") + `{"aa"|"b"})]`, 76051},
		{strings.Repeat("8>", 190) + "(" + rowOf(50, "_") + `{[_]|"bb"})`, 76051},
	} {
		d := read(c.doc)
		for _, width := range []int{0, 50, 100} {
			got := hold(t, d, width)
			if len(got.text) != c.long || got.cost != costOf(got.text, width) {
				t.Errorf("%.30s, %d: %d bytes, %v, want %d, %v", c.doc, width, len(got.text), got.cost, c.long, costOf(got.text, width))
			}
			if _, err := cost.Of(got.text, width); plain.Told(err) != api.ErrFull {
				t.Errorf("Of %d bytes: %v", len(got.text), err)
			}
		}
	}
}

// grow makes a doc of n nodes; few of them are Line, else hardly a group could be flat.
func grow(r *rand.Rand, n int) []api.Node {
	if n == 1 {
		leaves := []int{api.Word, api.Word, api.Word, api.Blank, api.Blank, api.Soft, api.Zero, 1 + r.Intn(5)}
		node := api.Node{Op: leaves[r.Intn(len(leaves))]}
		if node.Op == api.Word {
			node.Text = strings.Repeat(string(rune('a'+r.Intn(26))), 1+r.Intn(1+r.Intn(20)))
		}
		return []api.Node{node}
	}
	if n == 2 || r.Intn(3) == 0 {
		node := api.Node{Op: api.Group}
		if r.Intn(2) == 0 {
			node = api.Node{Op: api.Deep, N: r.Intn(1 + r.Intn(9))}
		}
		return append([]api.Node{node}, grow(r, n-1)...)
	}
	node := api.Node{Op: api.Both}
	if r.Intn(4) == 0 {
		node.Op = api.Either
	}
	first := 1 + r.Intn(n-2)
	return slices.Concat([]api.Node{node}, grow(r, first), grow(r, n-1-first))
}

// TestGrown: docs of all forms, against all their ways.
func TestGrown(t *testing.T) {
	r := rand.New(rand.NewSource(5))
	count := 0
	for range 6000 {
		d := grow(r, 1+r.Intn(60))
		if _, err := way.All(d); err != nil {
			continue
		}
		count++
		for range 4 {
			width := r.Intn(1 + r.Intn(api.MaxWidth+1))
			if got, want := ask(t, d, width), tried(t, d, width); !got.equal(want) {
				t.Fatalf("%s, %d: %v, want %v", textOf(d), width, got, want)
			}
		}
	}
	if count < 2000 {
		t.Errorf("only %d docs were tried", count)
	}
}

// TestGrownLarge: docs of all forms, most of them of far more ways than can be tried.
func TestGrownLarge(t *testing.T) {
	r := rand.New(rand.NewSource(6))
	for range 150 {
		d := grow(r, 1+r.Intn(api.MaxNodes))
		width := r.Intn(api.MaxWidth + 1)
		if got := hold(t, d, width); got.cost != costOf(got.text, width) {
			t.Fatalf("%s, %d: %v, want %v", textOf(d), width, got.cost, costOf(got.text, width))
		}
	}
	hold(t, grow(r, api.MaxNodes), api.MaxWidth)
}

// TestWider: with more room it costs no more.
func TestWider(t *testing.T) {
	r := rand.New(rand.NewSource(7))
	for range 40 {
		d := grow(r, 100+r.Intn(200))
		last := ask(t, d, 0).cost
		for width := 1; width <= api.MaxWidth; width++ {
			next := ask(t, d, width).cost
			if more, err := cost.Less(last, next); more || err != nil {
				t.Errorf("%s: %v at %d, %v at one less", textOf(d), next, width, last)
			}
			last = next
		}
	}
}

// refuse asks that Best says an error, and nothing beside it.
func refuse(t *testing.T, d []api.Node, width int, want api.Errno) {
	t.Helper()
	kept := slices.Clone(d)
	text, choices, c, err := Best(d, width)
	if text != "" || len(choices) != 0 || c != (api.Cost{}) || plain.Told(err) != want {
		t.Errorf("%d nodes %.9v, %d: %q, %v, %v, %v, want %v", len(d), d, width, text, choices, c, err, want)
	}
	if !slices.Equal(d, kept) {
		t.Errorf("%v was %v", d, kept)
	}
}

func TestWidths(t *testing.T) {
	for _, text := range []string{`"a"`, `/`, `0`, `[("ab"(_"c"))]`, `{"ab"|"c"}`, within(399, "/"), rowOf(80, `{"a"|"bcd"}`)} {
		d := read(text)
		for _, width := range []int{-1, -2, -100, api.MaxWidth + 1, 1000, math.MinInt, math.MaxInt} {
			refuse(t, d, width, api.ErrRange)
		}
		for _, width := range []int{0, 1, api.MaxWidth - 1, api.MaxWidth} {
			hold(t, d, width)
		}
	}
}

// TestWrongDocs: what Check says is said, ahead of what is wrong with the width.
func TestWrongDocs(t *testing.T) {
	for _, c := range []struct {
		d    []api.Node
		want api.Errno
	}{
		{nil, api.ErrShape},
		{[]api.Node{}, api.ErrShape},
		{read(within(400, `"a"`)), api.ErrFull},
		{make([]api.Node, 401), api.ErrFull},
		{make([]api.Node, 400), api.ErrRange},
		{[]api.Node{{Op: 0}}, api.ErrRange},
		{[]api.Node{{Op: 10}}, api.ErrRange},
		{[]api.Node{{Op: -1}}, api.ErrRange},
		{[]api.Node{{Op: math.MinInt}}, api.ErrRange},
		{[]api.Node{{Op: math.MaxInt}}, api.ErrRange},
		{[]api.Node{{Op: api.Line, Text: "a"}}, api.ErrShape},
		{[]api.Node{{Op: api.Word, Text: "a", N: 1}}, api.ErrShape},
		{[]api.Node{{Op: api.Group, N: 1}, {Op: api.Zero}}, api.ErrShape},
		{read(`""`), api.ErrSyntax},
		{read("\"\n\""), api.ErrSyntax},
		{read("\"\x7f\""), api.ErrSyntax},
		{read("\"\u00e9\""), api.ErrSyntax},
		{read(`"` + strings.Repeat("x", 21) + `"`), api.ErrSyntax},
		{read(`9>"a"`), api.ErrRange},
		{[]api.Node{{Op: api.Deep, N: -1}, {Op: api.Zero}}, api.ErrRange},
		{read(`("a"`), api.ErrShape},
		{read(`{"a"|`), api.ErrShape},
		{read(`[`), api.ErrShape},
		{read(`1>`), api.ErrShape},
		{read(`"a""b"`), api.ErrShape},
		{read(`["a"]/`), api.ErrShape},
		{read(`{"a"|""}`), api.ErrSyntax},
		{read(`{[/]|9>""}`), api.ErrRange},
	} {
		for _, width := range []int{math.MinInt, -1, 0, 40, api.MaxWidth, api.MaxWidth + 1, math.MaxInt} {
			refuse(t, c.d, width, c.want)
		}
	}
}

// TestSpoiled: docs of all forms with a node taken out, or put in, or spoiled.
func TestSpoiled(t *testing.T) {
	r := rand.New(rand.NewSource(8))
	count := map[api.Errno]int{}
	for range 3000 {
		d := grow(r, 1+r.Intn(30))
		at := r.Intn(len(d))
		wrong := api.Node{Op: r.Intn(13) - 1, N: (r.Intn(13) - 2) * r.Intn(2)}
		if wrong.Op == api.Word && r.Intn(2) == 0 {
			wrong.Text = "w"
		}
		switch r.Intn(3) {
		case 0:
			d = slices.Delete(d, at, at+1)
		case 1:
			d = slices.Insert(d, at, wrong)
		case 2:
			d[at] = wrong
		}
		told := plain.Told(doc.Check(d))
		count[told]++
		if told == api.OK {
			hold(t, d, r.Intn(30))
		} else {
			refuse(t, d, r.Intn(120)-10, told)
		}
	}
	for _, e := range []api.Errno{api.OK, api.ErrRange, api.ErrShape, api.ErrSyntax} {
		if count[e] == 0 {
			t.Errorf("%v was never told", e)
		}
	}
}

// TestFreshMemory: what comes out is the caller's, whatever becomes of another answer or of the doc.
func TestFreshMemory(t *testing.T) {
	d := read(rowOf(20, `({"ab"|"c"}[_])`))
	want := tried(t, read(`[("ab"(_"c"))]`), 3)
	kept := ask(t, d, 9)
	first, second := ask(t, d, 9), ask(t, d, 9)
	for i := range first.way {
		first.way[i] = 7
	}
	_ = append(first.way[:len(first.way):cap(first.way)], 7, 7)
	clear(d)
	if !second.equal(kept) || first.text != kept.text {
		t.Errorf("%v, %v was %v", first, second, kept)
	}
	if unsafe.StringData(first.text) == unsafe.StringData(second.text) {
		t.Errorf("two texts share memory: %q", first.text)
	}
	// What is asked next hangs on nothing that was asked ahead of it.
	if got := ask(t, read(`[("ab"(_"c"))]`), 3); !got.equal(want) {
		t.Errorf("%v, want %v", got, want)
	}
	one := read(`"abc"`)
	if got := ask(t, one, 3); unsafe.StringData(got.text) == unsafe.StringData(one[0].Text) {
		t.Errorf("the text is the word itself: %q", got.text)
	}
}

// TestBehindTheLength: what lies behind a list's length is neither read nor written.
func TestBehindTheLength(t *testing.T) {
	all := append(read(`[("ab"(_"c"))]`), api.Node{Op: api.Line}, api.Node{Op: 77})
	kept := slices.Clone(all)
	want := answer{"ab\nc", []int{1}, api.Cost{Lines: 1}}
	if got := ask(t, all[:6], 3); !got.equal(want) {
		t.Errorf("%v, want %v", got, want)
	}
	refuse(t, all[:5], 3, api.ErrShape)
	if !slices.Equal(all, kept) {
		t.Errorf("%v was %v", all, kept)
	}
}
