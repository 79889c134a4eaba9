// Package run makes trees of rows: see doc/07-run.md.
package run

import "comb/api"

// Parse makes a tree of a row of tokens (M1, M2).
func Parse(b string, row []int) ([]api.Node, api.Errno, int) { return nil, api.OK, 0 }
