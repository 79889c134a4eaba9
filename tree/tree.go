// Package tree folds helpers into the rules around them (doc/08-fold.md): fold does so by a grammar's text, comb by a pack.
package tree

import (
	"slices"
	"strings"

	"comb/api"
)

// Fold tells the nodes that are no helpers' (V1). Which ones are is told by what the names of productions are called.
func Fold(nodes []api.Node, called func(symbol int) string) []api.Node {
	f := folder{nodes: nodes}
	out := make([]api.Node, 0, f.number(called))
	for i, node := range nodes {
		if f.numbers[i] != folded {
			node.Kids = f.kids(node.Kids)
			out = append(out, node)
		}
	}
	return out
}

// folded is the number of a helper's node, which has no new one.
const folded = -1

type folder struct {
	nodes   []api.Node
	numbers []int // of each node: its new number
}

// number gives the nodes that are left their numbers, and tells how many there are.
func (f *folder) number(called func(symbol int) string) int {
	f.numbers = make([]int, len(f.nodes))
	left := 0
	for i, node := range f.nodes {
		if node.Prod >= 0 && strings.Contains(called(node.Symbol), "'") {
			f.numbers[i] = folded
		} else {
			f.numbers[i] = left
			left++
		}
	}
	return left
}

// kids tells the new numbers of what stands in place of Kids. Helpers may lie as deep in one another as a row is long, so what is still to be gone through lies on a pile, the next one uppermost.
func (f *folder) kids(kids []int) []int {
	var out []int
	pile := pileOn(nil, kids)
	for len(pile) > 0 {
		next := pile[len(pile)-1]
		pile = pile[:len(pile)-1]
		if f.numbers[next] == folded {
			pile = pileOn(pile, f.nodes[next].Kids)
		} else {
			out = append(out, f.numbers[next])
		}
	}
	return out
}

// pileOn puts Kids on a pile, the first one uppermost.
func pileOn(pile, kids []int) []int {
	for _, kid := range slices.Backward(kids) {
		pile = append(pile, kid)
	}
	return pile
}
