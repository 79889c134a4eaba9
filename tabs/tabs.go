// Package tabs tells what is done in each state with each token: see doc/05-tabs.md.
package tabs

import (
	"comb/api"
	"comb/look"
	"comb/plain"
	"comb/state"
)

// Make tells a grammar's tables (K3).
func Make(text string) ([][]api.Cell, [][]int, []api.Clash, int, api.Errno, int) {
	aheads, errno, at := look.Look(text)
	if errno != api.OK {
		return nil, nil, nil, 0, errno, at
	}
	made, _, _ := plain.Make(text)
	_, edges, _, _ := state.States(text)
	d := decider{plain: made}
	cells := d.cells(choicesOf(aheads, edges, len(made.Tokens)))
	return cells, gotosOf(len(aheads), edges, made), d.clashes, d.settled, api.OK, 0
}

// gotosOf tells for each state and each name where the edge by it goes.
func gotosOf(states int, edges []api.Edge, made api.Plain) [][]int {
	gotos := make([][]int, states)
	for i := range gotos {
		gotos[i] = make([]int, len(made.Names))
	}
	for _, edge := range edges {
		if edge.Symbol >= len(made.Tokens) {
			gotos[edge.From][edge.Symbol-len(made.Tokens)] = edge.To
		}
	}
	return gotos
}
