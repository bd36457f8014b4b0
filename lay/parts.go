package lay

import (
	"slices"

	"pargetry/api"
)

// step is how much deeper the inner lines of a statement stand.
const step = 2

func word(text string) []api.Node { return []api.Node{{Op: api.Word, Text: text}} }

func blank() []api.Node { return []api.Node{{Op: api.Blank}} }

func soft() []api.Node { return []api.Node{{Op: api.Soft}} }

func both(first, second []api.Node) []api.Node {
	return slices.Concat([]api.Node{{Op: api.Both}}, first, second)
}

func deeper(part []api.Node) []api.Node {
	return slices.Concat([]api.Node{{Op: api.Deep, N: step}}, part)
}

func group(part []api.Node) []api.Node {
	return slices.Concat([]api.Node{{Op: api.Group}}, part)
}
