package check

import (
	"cmp"
	"maps"
	"slices"
	"testing"

	"comb/api"
	"comb/state"
)

// spots is a set of spots.
type spots map[api.Spot]bool

func sortSpots(a, b api.Spot) int {
	return cmp.Or(cmp.Compare(a.Prod, b.Prod), cmp.Compare(a.Dot, b.Dot))
}

// behind tells the symbols of a spot's production that stand behind its dot.
func behind(made api.Plain, spot api.Spot) []int { return made.Prods[spot.Prod].Right[spot.Dot:] }

// closure tells D1's closure: each spot and each production is asked again until nothing is added.
func closure(made api.Plain, kernel spots) spots {
	out := maps.Clone(kernel)
	for size := 0; size < len(out); {
		size = len(out)
		for spot := range maps.Clone(out) {
			for number, prod := range made.Prods {
				if rest := behind(made, spot); len(rest) > 0 && rest[0] == prod.Left {
					out[api.Spot{Prod: number, Dot: 0}] = true
				}
			}
		}
	}
	return out
}

// follows tells D1's kernel that follows by a symbol.
func follows(made api.Plain, kernel spots, symbol int) spots {
	out := spots{}
	for spot := range closure(made, kernel) {
		if rest := behind(made, spot); len(rest) > 0 && rest[0] == symbol {
			out[api.Spot{Prod: spot.Prod, Dot: spot.Dot + 1}] = true
		}
	}
	return out
}

// statesOf tells D2's states, and their edges.
func statesOf(made api.Plain) ([]spots, []api.Edge) {
	kernels := []spots{{api.Spot{Prod: 0, Dot: 0}: true}}
	var edges []api.Edge
	for from := 0; from < len(kernels); from++ {
		for symbol := range len(made.Tokens) + len(made.Names) {
			kernel := follows(made, kernels[from], symbol)
			if len(kernel) == 0 {
				continue
			}
			to := slices.IndexFunc(kernels, func(other spots) bool { return maps.Equal(other, kernel) })
			if to < 0 {
				to = len(kernels)
				kernels = append(kernels, kernel)
			}
			edges = append(edges, api.Edge{From: from, Symbol: symbol, To: to})
		}
	}
	return kernels, edges
}

func TestStates(t *testing.T) {
	joined := 0
	eachGrammar(t, 4, func(text string, made api.Plain) {
		want, wantEdges := statesOf(made)
		got, edges, errno, at := state.States(text)
		if errno != api.OK || at != 0 || len(got) != len(want) {
			t.Fatalf("D3: States(%q): %d states, want %d (%d, %d)", text, len(got), len(want), errno, at)
		}
		for i, kernel := range want {
			if sorted := slices.SortedFunc(maps.Keys(kernel), sortSpots); !slices.Equal(got[i], sorted) {
				t.Errorf("D1 to D3: States(%q): state %d is %v, want %v", text, i, got[i], sorted)
			}
		}
		if !slices.Equal(edges, wantEdges) {
			t.Errorf("D2, D3: States(%q): edges %v, want %v", text, edges, wantEdges)
		}
		if len(edges) >= len(got) {
			joined++
		}
	})
	if joined < 100 {
		t.Errorf("only %d of the grammars had a state that several edges come to", joined)
	}
}
