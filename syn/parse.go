package syn

import (
	"slices"
	"strconv"
	"strings"

	"pargetry/api"
)

// misfit is a word that cannot stand where it stands, or the end of a text that ends too early.
type misfit struct {
	place int // the byte at which it begins
}

// reader reads words one behind the other. It panics with a misfit.
type reader struct {
	words []string // those that are not yet read, and an empty one, which is the end
	at    []int    // the bytes at which they begin
}

// read gives the program that words of a text of so many bytes are, whatever is wrong with its statements.
func read(words []string, at []int, bytes int) (p [][]api.Tree, place int, err error) {
	defer func() {
		caught := recover()
		if wrong, is := caught.(misfit); is {
			p, place, err = nil, wrong.place, api.ErrSyntax
		} else if caught != nil {
			panic(caught)
		}
	}()
	r := reader{words: append(words, ""), at: append(at, bytes)}
	for r.word() != "" {
		p = append(p, r.statement())
	}
	return p, 0, nil
}

// word gives the next word, and leaves it there.
func (r *reader) word() string { return r.words[0] }

// next gives the next word, which is not the end.
func (r *reader) next() string {
	word := r.words[0]
	r.words, r.at = r.words[1:], r.at[1:]
	return word
}

// has tells whether the next word is this one, and reads it then.
func (r *reader) has(word string) bool {
	is := r.word() == word
	if is {
		r.next()
	}
	return is
}

// must reads this word: no other one can stand there.
func (r *reader) must(word string) {
	if !r.has(word) {
		r.fail()
	}
}

// fail tells that the next word cannot stand there.
func (r *reader) fail() { panic(misfit{place: r.at[0]}) }

func (r *reader) statement() []api.Tree {
	if isNote(r.word()) {
		return r.notes()
	}
	first := api.Tree{Op: api.Do}
	if r.has("let") {
		first = api.Tree{Op: api.Let, Text: r.name()}
		r.must("=")
	}
	t := append([]api.Tree{first}, r.sum()...)
	r.must(";")
	return t
}

// notes reads the notes that follow one another as one.
func (r *reader) notes() []api.Tree {
	var words []string
	for isNote(r.word()) {
		words = append(words, strings.Fields(r.next()[1:])...)
	}
	return []api.Tree{{Op: api.Note, Text: strings.Join(words, " ")}}
}

func (r *reader) name() string {
	if !isName(r.word()) {
		r.fail()
	}
	return r.next()
}

// sum reads an expression, whatever it is: nothing binds less than a sum.
func (r *reader) sum() []api.Tree { return r.chain("+", api.Sum, r.times) }

func (r *reader) times() []api.Tree { return r.chain("*", api.Mul, r.single) }

// chain reads parts with a mark between them, from the left.
func (r *reader) chain(mark string, op int, part func() []api.Tree) []api.Tree {
	t := part()
	for r.has(mark) {
		t = slices.Concat([]api.Tree{{Op: op}}, t, part())
	}
	return t
}

// single reads an expression that is bound by nothing within it.
func (r *reader) single() []api.Tree {
	switch {
	case isNumber(r.word()):
		// A word that is a number has few digits: there is no error.
		n, _ := strconv.Atoi(r.next())
		return []api.Tree{{Op: api.Num, N: n}}
	case isName(r.word()):
		return r.named()
	case r.has("["):
		return r.kids(api.Tree{Op: api.List}, "]")
	}
	r.must("(")
	t := r.sum()
	r.must(")")
	return t
}

// named reads a Name or a Call.
func (r *reader) named() []api.Tree {
	text := r.next()
	if r.has("(") {
		return r.kids(api.Tree{Op: api.Call, Text: text}, ")")
	}
	return []api.Tree{{Op: api.Name, Text: text}}
}

// kids reads the kids of a Call or a List, and the bracket behind them.
func (r *reader) kids(node api.Tree, end string) []api.Tree {
	if r.has(end) {
		return []api.Tree{node}
	}
	kids := r.sum()
	node.N = 1
	for r.has(",") {
		kids = append(kids, r.sum()...)
		node.N++
	}
	r.must(end)
	return append([]api.Tree{node}, kids...)
}

// The words are chapter 7's: what they begin with tells what they are.

func isNote(word string) bool { return strings.HasPrefix(word, "#") }

func isName(word string) bool { return word != "let" && begins(word, 'a', 'z') }

func isNumber(word string) bool { return begins(word, '0', '9') }

// begins tells whether a word begins with a byte from low to high; the end does not.
func begins(word string, low, high byte) bool {
	return word != "" && low <= word[0] && word[0] <= high
}
