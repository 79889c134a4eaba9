// Package state tells how far one has come in productions: see doc/03-state.md.
package state

import (
	"comb/api"
	"comb/plain"
)

// maxStates is MaxStates.
const maxStates = 300

// States tells all states and edges (D3).
func States(text string) ([][]api.Spot, []api.Edge, api.Errno, int) {
	made, errno, at := plain.Make(text)
	if errno != api.OK {
		return nil, nil, errno, at
	}
	f := finder{plain: made, numbers: map[string]int{}}
	f.number([]api.Spot{{Prod: 0, Dot: 0}})
	for from := 0; from < len(f.kernels); from++ {
		f.leave(from)
		if len(f.kernels) > maxStates {
			return nil, nil, api.ErrMany, 0
		}
	}
	return f.kernels, f.edges, api.OK, 0
}
