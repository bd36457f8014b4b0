package lay

import (
	"strconv"
	"strings"

	"pargetry/api"
	"pargetry/syn"
)

// layer lays statements that are known to be right and no Notes.
type layer struct {
	left []api.Tree // the nodes of a statement that are not yet laid
}

// next gives the next node: what is left are those behind it.
func (l *layer) next() api.Tree {
	node := l.left[0]
	l.left = l.left[1:]
	return node
}

func (l *layer) statement() []api.Node {
	first := l.next()
	rest := both(l.expression(), word(";"))
	if first.Op == api.Let {
		return group(both(word("let "+first.Text+" ="), deeper(both(blank(), rest))))
	}
	return rest
}

func (l *layer) expression() []api.Node {
	node := l.next()
	switch node.Op {
	case api.Num:
		return word(strconv.Itoa(node.N))
	case api.Call:
		return l.between(node.Text+"(", node.N, ")")
	case api.List:
		return l.between("[", node.N, "]")
	case api.Sum:
		return l.sides(node.Op, "+ ")
	case api.Mul:
		return l.sides(node.Op, "* ")
	}
	// A Name. Its doc shares no memory with the statement.
	return word(strings.Clone(node.Text))
}

// between lays so many kids of a Call or a List with what stands about them.
func (l *layer) between(open string, n int, end string) []api.Node {
	if n == 0 {
		return word(open + end)
	}
	inner := deeper(both(soft(), l.kids(n)))
	return group(both(word(open), both(inner, both(soft(), word(end)))))
}

// kids lays so many kids, at least one.
func (l *layer) kids(n int) []api.Node {
	kid := l.expression()
	if n == 1 {
		return kid
	}
	return both(both(kid, word(",")), both(blank(), l.kids(n-1)))
}

// sides lays the two kids of a Sum or a Mul.
func (l *layer) sides(op int, mark string) []api.Node {
	first := l.side(op, false)
	second := l.side(op, true)
	return group(both(first, deeper(both(blank(), both(word(mark), second)))))
}

// side lays a kid of a Sum or a Mul, between brackets if it needs them.
func (l *layer) side(op int, second bool) []api.Node {
	needs := syn.NeedsBrackets(l.left[0].Op, op, second)
	side := l.expression()
	if needs {
		return both(word("("), both(side, word(")")))
	}
	return side
}
