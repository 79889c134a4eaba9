package pack

import (
	"comb/api"
	"comb/deed"
)

// longRow is one row in which the rows of all states lie over one another, each with its cells where the others have none. In a state's row there is a cell for each symbol: for a token what is done, for a name a shift to where the edge by it goes.
type longRow struct {
	begins []int // of each state: where its row begins
	places []place
}

// place is a told cell, and the state that it is of. One that no state has is as of state 0, and does nothing.
type place struct {
	api.Cell
	state int
}

// told is a told cell, and the symbol that it is of.
type told struct {
	api.Cell
	symbol int
}

// cell tells a state's cell for a symbol.
func (l *longRow) cell(state, symbol int) api.Cell {
	if found := item(l.places, l.begins[state]+symbol); found.state == state {
		return found.Cell
	}
	return api.Cell{}
}

// lay lays the next state's row where it first fits, at the latest right behind the last place. So there are never more places than all rows have together, nor so many side by side that no row has as one row has.
func (l *longRow) lay(row []told) {
	begin := 0
	for !l.fits(begin, row) {
		begin++
	}
	state := len(l.begins)
	l.begins = append(l.begins, begin)
	for _, one := range row {
		at := begin + one.symbol
		if short := at + 1 - len(l.places); short > 0 {
			l.places = append(l.places, make([]place, short)...)
		}
		l.places[at] = place{one.Cell, state}
	}
}

func (l *longRow) fits(begin int, row []told) bool {
	for _, one := range row {
		if item(l.places, begin+one.symbol).Do != deed.Nothing {
			return false
		}
	}
	return true
}
