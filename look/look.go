// Package look tells what may stand ahead: see doc/04-look.md.
package look

import (
	"comb/api"
	"comb/plain"
	"comb/state"
)

// Look tells with which tokens each state reduces (F2).
func Look(text string) ([][]api.Ahead, api.Errno, int) {
	kernels, edges, errno, at := state.States(text)
	if errno != api.OK {
		return nil, errno, at
	}
	made, _, _ := plain.Make(text)
	empty, first, _, _ := plain.Sets(text)
	l := looker{
		machine: newMachine(made, edges),
		empty:   empty,
		first:   setsOf(first, len(made.Tokens)),
		places:  map[step]int{},
	}
	l.settle()
	return l.answer(len(kernels)), api.OK, 0
}
