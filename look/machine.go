package look

import (
	"iter"

	"comb/api"
)

// step is a symbol that is taken in a state.
type step struct{ state, symbol int }

// end is a production that has its dot at the end in a state.
type end struct{ state, prod int }

// machine is what productions are walked by.
type machine struct {
	plain api.Plain
	goes  map[step]int // where the edge of each step goes
}

func newMachine(made api.Plain, edges []api.Edge) machine {
	m := machine{plain: made, goes: map[step]int{}}
	for _, edge := range edges {
		m.goes[step{edge.From, edge.Symbol}] = edge.To
	}
	return m
}

// spots goes through all spots of the productions that begin where s is and have its symbol on their left, each with the state that has it when one goes on from there.
func (m machine) spots(s step) iter.Seq2[api.Spot, int] {
	return func(yield func(api.Spot, int) bool) {
		for number, prod := range m.plain.Prods {
			if prod.Left != s.symbol {
				continue
			}
			at := s.state
			for dot, symbol := range prod.Right {
				if !yield(api.Spot{Prod: number, Dot: dot}, at) {
					return
				}
				at = m.goes[step{at, symbol}]
			}
			if !yield(api.Spot{Prod: number, Dot: len(prod.Right)}, at) {
				return
			}
		}
	}
}

// names goes through the steps by names that s's productions take, each with the symbols behind the name.
func (m machine) names(s step) iter.Seq2[step, []int] {
	return func(yield func(step, []int) bool) {
		for spot, at := range m.spots(s) {
			behind := m.plain.Prods[spot.Prod].Right[spot.Dot:]
			if len(behind) == 0 || behind[0] < len(m.plain.Tokens) {
				continue
			}
			if !yield(step{at, behind[0]}, behind[1:]) {
				return
			}
		}
	}
}

// ends goes through the ends that s's productions come to.
func (m machine) ends(s step) iter.Seq[end] {
	return func(yield func(end) bool) {
		for spot, at := range m.spots(s) {
			if spot.Dot == len(m.plain.Prods[spot.Prod].Right) && !yield(end{at, spot.Prod}) {
				return
			}
		}
	}
}
