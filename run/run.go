// Package run makes trees of rows: see doc/07-run.md.
package run

import (
	"comb/api"
	"comb/pack"
)

// Parse makes a tree of a row of tokens (M1, M2).
func Parse(b string, row []int) ([]api.Node, api.Errno, int) {
	p, errno := pack.Load(b)
	if errno != api.OK {
		return nil, api.ErrData, 0
	}
	w := worker{pack: p, row: row, pile: []int16{0}}
	errno, at := w.work()
	if errno != api.OK {
		return nil, errno, at
	}
	return nodesOf(w.steps, p, row), api.OK, 0
}
