package syn

import (
	"strconv"
	"strings"

	"pargetry/api"
)

// writer writes statements that are known to be right.
type writer struct {
	strings.Builder
	left []api.Tree // the nodes of a statement that are not yet written
}

// next gives the next node: what is left are those behind it.
func (w *writer) next() api.Tree {
	node := w.left[0]
	w.left = w.left[1:]
	return node
}

func (w *writer) statement() {
	switch node := w.next(); node.Op {
	case api.Note:
		w.note(node.Text)
		return
	case api.Let:
		w.WriteString("let " + node.Text + " = ")
	}
	w.expression()
	w.WriteByte(';')
}

func (w *writer) note(text string) {
	w.WriteByte('#')
	// Without words there is no blank: at a line's end it would be no part of the note.
	if text != "" {
		w.WriteString(" " + text)
	}
}

func (w *writer) expression() {
	switch node := w.next(); node.Op {
	case api.Num:
		w.WriteString(strconv.Itoa(node.N))
	case api.Name:
		w.WriteString(node.Text)
	case api.Call:
		w.WriteString(node.Text)
		w.kids(node.N, '(', ')')
	case api.List:
		w.kids(node.N, '[', ']')
	case api.Sum:
		w.sides(node.Op, " + ")
	case api.Mul:
		w.sides(node.Op, " * ")
	}
}

// kids writes so many expressions between brackets.
func (w *writer) kids(n int, open, end byte) {
	w.WriteByte(open)
	defer w.WriteByte(end)
	for i := range n {
		if i > 0 {
			w.WriteString(", ")
		}
		w.expression()
	}
}

// sides writes the two kids of a Sum or a Mul.
func (w *writer) sides(op int, mark string) {
	w.side(op, false)
	w.WriteString(mark)
	w.side(op, true)
}

// side writes a kid of a Sum or a Mul, between brackets if it needs them.
func (w *writer) side(op int, second bool) {
	if NeedsBrackets(w.left[0].Op, op, second) {
		w.WriteByte('(')
		defer w.WriteByte(')')
	}
	w.expression()
}

// NeedsBrackets tells whether a kid of an Op, its second one or another, would be read as part of something else without brackets about it. Only kids of a Sum or a Mul may be.
func NeedsBrackets(kid, op int, second bool) bool {
	switch op {
	case api.Sum:
		// What binds alike goes from the left, so that the first one is read right.
		return second && kid == api.Sum
	case api.Mul:
		return kid == api.Sum || second && kid == api.Mul
	}
	return false
}
