package tabs

import (
	"comb/api"
	"comb/deed"
)

// choice is what a cell could do (K1).
type choice struct {
	shift int   // where the edge by its token goes; 0: there is none, as none goes to state 0
	prods []int // what it could reduce, rising; 0 is an accept, as ahead of production 0 the end alone may stand
}

// choicesOf tells for each state and each token what their cell could do.
func choicesOf(aheads [][]api.Ahead, edges []api.Edge, tokens int) [][]choice {
	choices := make([][]choice, len(aheads))
	for i, list := range aheads {
		choices[i] = make([]choice, tokens)
		for _, ahead := range list {
			for _, token := range ahead.Tokens {
				c := &choices[i][token]
				c.prods = append(c.prods, ahead.Prod)
			}
		}
	}
	for _, edge := range edges {
		if edge.Symbol < tokens {
			choices[edge.From][edge.Symbol].shift = edge.To
		}
	}
	return choices
}

// several tells whether there is more than one thing to do.
func (c choice) several() bool {
	return len(c.prods) > 1 || c.shift != 0 && len(c.prods) == 1
}

// foremost tells what goes ahead of all else that could be done; it is also the one thing, if there is just one.
func (c choice) foremost() api.Cell {
	switch {
	case len(c.prods) > 0 && c.prods[0] == 0:
		return api.Cell{Do: deed.Accept}
	case c.shift != 0:
		return api.Cell{Do: deed.Shift, To: c.shift}
	case len(c.prods) > 0:
		return api.Cell{Do: deed.Reduce, To: c.prods[0]}
	}
	return api.Cell{Do: deed.Nothing}
}
