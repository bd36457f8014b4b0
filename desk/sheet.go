package desk

import (
	"strings"

	"pargetry/api"
	"pargetry/page"
	"pargetry/syn"
)

// entry is a statement, and its lines at the width of its sheet.
type entry struct {
	tree  []api.Tree
	lines string
}

// sheet is a program in lines. It is not written into once it is made, so that an error leaves the one that stands as it was.
type sheet struct {
	width int
	order []string         // the keys of its statements, as they stand
	known map[string]entry // its statements, and no others, by their keys
}

// follow gives the sheet of another program at the same width, and how many statements had to be laid out for it.
func (s *sheet) follow(p [][]api.Tree) (next sheet, laid int, err error) {
	next = sheet{width: s.width, known: map[string]entry{}}
	for _, t := range p {
		k, err := key(t)
		if err != nil {
			return sheet{}, 0, err
		}
		next.order = append(next.order, k)
		if _, is := next.known[k]; is {
			continue
		}
		e, is := s.known[k]
		if !is {
			if e, err = lay(t, s.width); err != nil {
				return sheet{}, 0, err
			}
			laid++
		}
		next.known[k] = e
	}
	return next, laid, nil
}

// program gives the statements of a sheet as they stand.
func (s *sheet) program() [][]api.Tree {
	var p [][]api.Tree
	for _, k := range s.order {
		p = append(p, s.known[k].tree)
	}
	return p
}

// text gives the lines of all statements of a sheet.
func (s *sheet) text() string {
	var all strings.Builder
	for _, k := range s.order {
		all.WriteString(s.known[k].lines)
	}
	return all.String()
}

// key gives what a statement is known by: the line that is printed of it. No other statement has that line, since it is read as this one again.
func key(t []api.Tree) (string, error) { return syn.Print([][]api.Tree{t}) }

func lay(t []api.Tree, width int) (entry, error) {
	lines, err := page.One(t, width)
	if err != nil {
		return entry{}, err
	}
	return entry{tree: t, lines: lines}, nil
}
