package state

import (
	"cmp"
	"slices"
	"strconv"

	"comb/api"
)

// finder finds states, and numbers them as they are found.
type finder struct {
	plain   api.Plain
	numbers map[string]int // of each kernel's text, as lists cannot be keys
	kernels [][]api.Spot
	edges   []api.Edge
}

// move is a symbol that stands right behind a dot, and the spot behind it.
type move struct {
	symbol int
	spot   api.Spot
}

// leave adds the edges from a state, and the states that they are the first ones to come to.
func (f *finder) leave(from int) {
	moves := f.moves(f.kernels[from])
	for len(moves) > 0 {
		symbol := moves[0].symbol
		var kernel []api.Spot
		for len(moves) > 0 && moves[0].symbol == symbol {
			kernel = append(kernel, moves[0].spot)
			moves = moves[1:]
		}
		f.edges = append(f.edges, api.Edge{From: from, Symbol: symbol, To: f.number(kernel)})
	}
}

// moves tells all moves from a kernel, sorted such that those by one symbol stand together, and their spots are a kernel as it is told.
func (f *finder) moves(kernel []api.Spot) []move {
	var moves []move
	for _, spot := range f.closure(kernel) {
		if right := f.plain.Prods[spot.Prod].Right; spot.Dot < len(right) {
			moves = append(moves, move{right[spot.Dot], api.Spot{Prod: spot.Prod, Dot: spot.Dot + 1}})
		}
	}
	slices.SortFunc(moves, func(a, b move) int {
		return cmp.Or(
			cmp.Compare(a.symbol, b.symbol),
			cmp.Compare(a.spot.Prod, b.spot.Prod),
			cmp.Compare(a.spot.Dot, b.spot.Dot))
	})
	return moves
}

// closure tells the spots of a kernel's closure (D1). A token has no productions, and so needs no asking.
func (f *finder) closure(kernel []api.Spot) []api.Spot {
	spots := slices.Clone(kernel)
	opened := make([]bool, len(f.plain.Tokens)+len(f.plain.Names))
	for i := 0; i < len(spots); i++ {
		right := f.plain.Prods[spots[i].Prod].Right
		if spots[i].Dot == len(right) || opened[right[spots[i].Dot]] {
			continue
		}
		symbol := right[spots[i].Dot]
		opened[symbol] = true
		for number, prod := range f.plain.Prods {
			if prod.Left == symbol {
				spots = append(spots, api.Spot{Prod: number, Dot: 0})
			}
		}
	}
	return spots
}

// number tells the number of a sorted kernel, which gets the next one if it is no state yet.
func (f *finder) number(kernel []api.Spot) int {
	text := textOf(kernel)
	number, known := f.numbers[text]
	if !known {
		number = len(f.kernels)
		f.numbers[text] = number
		f.kernels = append(f.kernels, kernel)
	}
	return number
}

func textOf(kernel []api.Spot) string {
	var text []byte
	for _, spot := range kernel {
		text = strconv.AppendInt(text, int64(spot.Prod), 10)
		text = append(text, '.')
		text = strconv.AppendInt(text, int64(spot.Dot), 10)
		text = append(text, ' ')
	}
	return string(text)
}
