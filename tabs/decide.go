package tabs

import (
	"comb/api"
	"comb/deed"
)

// ofOneLevel has for each Kind of level (A2) what is done between two tokens of one level.
var ofOneLevel = [...]int{deed.Reduce, deed.Shift, deed.Never}

// decider tells what cells do (K2), and keeps which of them clash, and how many were settled.
type decider struct {
	plain   api.Plain
	clashes []api.Clash
	settled int
}

// cells decides cell by cell: clashes are told in that order.
func (d *decider) cells(choices [][]choice) [][]api.Cell {
	cells := make([][]api.Cell, len(choices))
	for state, row := range choices {
		cells[state] = make([]api.Cell, len(row))
		for token, c := range row {
			cells[state][token] = d.cell(state, token, c)
		}
	}
	return cells
}

func (d *decider) cell(state, token int, c choice) api.Cell {
	if !c.several() {
		return c.foremost()
	}
	if d.settles(token, c) {
		d.settled++
		return d.byLevel(token, c)
	}
	d.clashes = append(d.clashes, api.Clash{State: state, Token: token, Shift: c.shift != 0, Prods: c.prods})
	return c.foremost()
}

// settles tells whether levels settle what is done, of several things that could be: beside one production alone, the other thing is a shift.
func (d *decider) settles(token int, c choice) bool {
	if len(c.prods) != 1 {
		return false
	}
	prec := d.prec(c)
	return prec >= 0 && d.plain.Binds[prec] > 0 && d.plain.Binds[token] > 0
}

func (d *decider) prec(c choice) int { return d.plain.Prods[c.prods[0]].Prec }

// byLevel tells what is done by the levels of the one production and of the token.
func (d *decider) byLevel(token int, c choice) api.Cell {
	do := ofOneLevel[d.plain.Kinds[token]]
	switch ours, theirs := d.plain.Binds[d.prec(c)], d.plain.Binds[token]; {
	case ours > theirs:
		do = deed.Reduce
	case ours < theirs:
		do = deed.Shift
	}
	to := [...]int{deed.Shift: c.shift, deed.Reduce: c.prods[0], deed.Never: 0}
	return api.Cell{Do: do, To: to[do]}
}
