// Package fold makes trees of rules: see doc/08-fold.md.
package fold

import "comb/api"

// Parse makes a tree without helpers (V1).
func Parse(text string, row []int) ([]api.Node, api.Errno, int) { return nil, api.OK, 0 }
