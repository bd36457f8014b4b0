// Package cost has what a text costs.
package cost

import (
	"iter"
	"strings"

	"pargetry/api"
)

// Less tells whether a is cheaper than b: a column too many weighs more than any number of lines.
func Less(a, b api.Cost) (bool, error) {
	if err := check(a, b); err != nil {
		return false, err
	}
	if a.Over != b.Over {
		return a.Over < b.Over, nil
	}
	return a.Lines < b.Lines, nil
}

// Add gives what a and b cost together.
func Add(a, b api.Cost) (api.Cost, error) {
	// The parts are checked ahead of the sum, so that the sum cannot wrap round.
	if err := check(a, b); err != nil {
		return api.Cost{}, err
	}
	sum := api.Cost{Over: a.Over + b.Over, Lines: a.Lines + b.Lines}
	if err := check(sum); err != nil {
		return api.Cost{}, err
	}
	return sum, nil
}

// Of gives what a text costs in lines of that width.
func Of(text string, width int) (api.Cost, error) {
	if len(text) > api.MaxText {
		return api.Cost{}, api.ErrFull
	}
	if width < 0 || width > api.MaxWidth {
		return api.Cost{}, api.ErrRange
	}
	// The first line has no byte 10 ahead of it: Lines counts the bytes, not the lines.
	c := api.Cost{Lines: -1}
	for line := range Lines(text) {
		c.Lines++
		c.Over += max(len(line)-width, 0)
	}
	return c, nil
}

// check says ErrRange if one of the costs is none that may be.
func check(costs ...api.Cost) error {
	for _, c := range costs {
		if !fits(c.Over) || !fits(c.Lines) {
			return api.ErrRange
		}
	}
	return nil
}

func fits(n int) bool { return 0 <= n && n <= api.MaxCost }

// Lines goes through what stands between the bytes 10 of a text: always at least one line, which may be empty.
func Lines(text string) iter.Seq[string] {
	return func(yield func(string) bool) {
		rest, found := text, true
		for found {
			var line string
			line, rest, found = strings.Cut(rest, "\n")
			if !yield(line) {
				return
			}
		}
	}
}
