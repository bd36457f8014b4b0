package syn

import (
	"strconv"
	"strings"

	"pargetry/api"
)

// writer writes statements that are known to be right.
type writer struct {
	strings.Builder
	left []api.Tree // the nodes of a statement that are not yet written
}

// next gives the next node: what is left are those behind it.
func (w *writer) next() api.Tree {
	node := w.left[0]
	w.left = w.left[1:]
	return node
}

func (w *writer) statement() {
	switch node := w.next(); node.Op {
	case api.Note:
		w.note(node.Text)
		return
	case api.Let:
		w.WriteString("let " + node.Text + " = ")
	}
	w.expression()
	w.WriteByte(';')
}

func (w *writer) note(text string) {
	w.WriteByte('#')
	// Without words there is no blank: at a line's end it would be no part of the note.
	if text != "" {
		w.WriteString(" " + text)
	}
}

func (w *writer) expression() {
	switch node := w.next(); node.Op {
	case api.Num:
		w.WriteString(strconv.Itoa(node.N))
	case api.Name:
		w.WriteString(node.Text)
	case api.Call:
		w.WriteString(node.Text)
		w.kids(node.N, '(', ')')
	case api.List:
		w.kids(node.N, '[', ']')
	case api.Sum:
		w.sides(node.Op, " + ")
	case api.Mul:
		w.sides(node.Op, " * ")
	}
}

// kids writes so many expressions between brackets.
func (w *writer) kids(n int, open, end byte) {
	w.WriteByte(open)
	defer w.WriteByte(end)
	for i := range n {
		if i > 0 {
			w.WriteString(", ")
		}
		w.expression()
	}
}

// sides writes the two kids of a Sum or a Mul.
func (w *writer) sides(op int, mark string) {
	w.side(op, false)
	w.WriteString(mark)
	w.side(op, true)
}

// side writes a kid of a Sum or a Mul, between brackets if it needs them.
func (w *writer) side(op int, second bool) {
	if needsBrackets(w.left[0].Op, op, second) {
		w.WriteByte('(')
		defer w.WriteByte(')')
	}
	w.expression()
}

// needsBrackets tells whether a kid of a Sum or a Mul would be read as another one without brackets.
func needsBrackets(kid, op int, second bool) bool {
	// What binds alike goes from the left, so that the first one is read right.
	return binds(kid) < binds(op) || second && binds(kid) == binds(op)
}

// binds tells how much an Op binds. What is neither a Sum nor a Mul holds together, whatever stands about it.
func binds(op int) int {
	switch op {
	case api.Sum:
		return 1
	case api.Mul:
		return 2
	}
	return 3
}
