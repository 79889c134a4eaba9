// Package fold makes trees of rules: see doc/08-fold.md.
package fold

import (
	"comb/api"
	"comb/pack"
	"comb/plain"
	"comb/run"
	"comb/tree"
)

// Parse makes a tree without helpers (V1).
func Parse(text string, row []int) ([]api.Node, api.Errno, int) {
	b, errno, at := pack.Make(text)
	if errno != api.OK {
		return nil, errno, at
	}
	nodes, errno, at := run.Parse(b, row)
	if errno != api.OK {
		return nil, errno, at
	}
	made, _, _ := plain.Make(text)
	called := func(symbol int) string { return made.Names[symbol-len(made.Tokens)] }
	return tree.Fold(nodes, called), api.OK, 0
}
