// Package state tells how far one has come in productions: see doc/03-state.md.
package state

import "comb/api"

// States tells all states and edges (D3).
func States(text string) ([][]api.Spot, []api.Edge, api.Errno, int) { return nil, nil, api.OK, 0 }
