package pack

import (
	"comb/api"
	"comb/deed"
)

// newPack makes a pack of tables (K3).
func newPack(made api.Plain, cells [][]api.Cell, gotos [][]int) *Pack {
	p := &Pack{tokens: made.Tokens, names: made.Names}
	for _, one := range made.Prods {
		p.prods = append(p.prods, prod{one.Left, len(one.Right)})
	}
	for state, row := range cells {
		usual := usualOf(row, len(made.Prods))
		p.defaults = append(p.defaults, usual)
		p.lay(toldOf(row, gotos[state], usual))
	}
	return p
}

// usualOf tells the default of a state (L1), 0 if it has none.
func usualOf(row []api.Cell, prods int) int {
	counts := make([]int, prods)
	usual := 0
	for _, cell := range row {
		if cell.Do == deed.Reduce {
			counts[cell.To]++
		}
	}
	for number, count := range counts {
		if count > counts[usual] {
			usual = number
		}
	}
	return usual
}

// toldOf tells the told cells of a state, and its edges by names, rising by symbol.
func toldOf(row []api.Cell, gotos []int, usual int) []told {
	var out []told
	for token, cell := range row {
		if cell.Do != deed.Nothing && cell != (api.Cell{Do: deed.Reduce, To: usual}) {
			out = append(out, told{cell, token})
		}
	}
	for name, to := range gotos {
		if to != 0 {
			out = append(out, told{api.Cell{Do: deed.Shift, To: to}, len(row) + name})
		}
	}
	return out
}
