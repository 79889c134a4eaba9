package tree_test

import (
	"fmt"
	"testing"

	"comb/api"
	"comb/tree"
)

func node(symbol, prod int, kids ...int) api.Node {
	return api.Node{Symbol: symbol, Prod: prod, Kids: kids, From: 7 * symbol, Words: 3 + prod}
}

// called is asked for names alone: a token is none, whatever it is called.
func called(symbol int) string {
	return []string{"a'0", "a'0", "a'0", "a", "a'1", "a'2", "b"}[symbol]
}

func TestFold(t *testing.T) {
	for _, c := range []struct {
		what        string
		nodes, want []api.Node
	}{
		{"nothing", nil, nil},
		{"a token", []api.Node{node(1, -1)}, []api.Node{node(1, -1)}},
		{"no helpers", []api.Node{node(1, -1), node(2, -1), node(6, 2, 1), node(3, 1, 0, 2)}, []api.Node{node(1, -1), node(2, -1), node(6, 2, 1), node(3, 1, 0, 2)}},
		{"a helper", []api.Node{node(1, -1), node(2, -1), node(4, 2, 0, 1), node(3, 1, 2)}, []api.Node{node(1, -1), node(2, -1), node(3, 1, 0, 1)}},
		{"an empty helper", []api.Node{node(4, 2), node(1, -1), node(4, 2), node(3, 1, 0, 1, 2)}, []api.Node{node(1, -1), node(3, 1, 0)}},
		{"only an empty helper", []api.Node{node(4, 2), node(3, 1, 0)}, []api.Node{node(3, 1)}},
		{
			"helpers in helpers, in their order",
			[]api.Node{node(1, -1), node(5, 3), node(2, -1), node(5, 3, 1, 2), node(6, 4), node(5, 3, 3, 4), node(1, -1), node(4, 2, 0, 5, 6), node(2, -1), node(3, 1, 7, 8)},
			[]api.Node{node(1, -1), node(2, -1), node(6, 4), node(1, -1), node(2, -1), node(3, 1, 0, 1, 2, 3, 4)},
		},
		{"a helper around all", []api.Node{node(1, -1), node(4, 2, 0)}, []api.Node{node(1, -1)}},
		{"a helper alone", []api.Node{node(4, 2)}, nil},
	} {
		before := fmt.Sprint(c.nodes)
		if got := tree.Fold(c.nodes, called); fmt.Sprint(got) != fmt.Sprint(c.want) {
			t.Errorf("V1: %s: %v, want %v", c.what, got, c.want)
		}
		if after := fmt.Sprint(c.nodes); after != before {
			t.Errorf("G4: %s: the nodes are %v now, were %v", c.what, after, before)
		}
	}
}
