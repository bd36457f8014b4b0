package run

import (
	"strconv"
	"strings"

	"pargetry/api"
	"pargetry/desk"
	"pargetry/look"
	"pargetry/plain"
)

// firstWidth is the desk's width ahead of all lines.
const firstWidth = 40

// maxN is the greatest number of as many digits as a line may have.
const maxN = 9999

// The answers that are no numbers, and no names of errors.
const (
	ok  = "ok\n"
	bad = "bad\n"
)

// session is what stands from line to line.
type session struct {
	*desk.Desk
	text string // the one that lines put together; that which the desk has is Text
}

// unread is a line that cannot be read, or that asks for what cannot be.
type unread struct {
	answer string // the line that tells so
}

func begin() *session {
	// The width is one that may be: there is no error.
	d, _ := desk.New(firstWidth)
	return &session{Desk: d}
}

// answer gives the lines by which a line is answered.
func (s *session) answer(line string) (told string) {
	defer func() {
		caught := recover()
		if wrong, is := caught.(unread); is {
			told = wrong.answer
		} else if caught != nil {
			panic(caught)
		}
	}()
	return s.follow(line)
}

// follow does what a line says. It panics with an unread.
func (s *session) follow(line string) string {
	if more, is := strings.CutPrefix(line, "+"); is {
		s.text += more + "\n"
		return ok
	}
	if n, is := strings.CutPrefix(line, "wide "); is {
		must(0, s.Wide(number(n)))
		return ok
	}
	switch line {
	case "set":
		return count(s.Set(s.text))
	case "text":
		return s.shown() + ok
	case "look":
		return count(look.Check(s.text, s.Width()))
	case "drop":
		s.text = ""
		return ok
	}
	panic(unread{answer: bad})
}

// shown gives the desk's lines, with a mark ahead of each that tells them from answers.
func (s *session) shown() string {
	var all strings.Builder
	for line := range lines(s.Text()) {
		all.WriteString("|" + line + "\n")
	}
	return all.String()
}

// number gives the number that a text is.
func number(text string) int {
	n, err := strconv.Atoi(text)
	// Written anew it has no needless 0 and no `+`: a text that has one is no number here.
	if err != nil || n < 0 || n > maxN || strconv.Itoa(n) != text {
		panic(unread{answer: bad})
	}
	return n
}

// count answers how many, if there is no error.
func count(n, place int, err error) string {
	must(place, err)
	return strconv.Itoa(n) + "\n"
}

// must goes on if there is no error: else it is the answer.
func must(place int, err error) {
	if err != nil {
		panic(unread{answer: named(place, err)})
	}
}

// named gives an error's name, and the place if it is a place in the text that is wrong.
func named(place int, err error) string {
	e := plain.Told(err)
	if e == api.ErrSyntax {
		return e.Error() + " " + strconv.Itoa(place) + "\n"
	}
	return e.Error() + "\n"
}
