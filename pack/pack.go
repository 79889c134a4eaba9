// Package pack makes bytes of tables: see doc/06-pack.md.
package pack

import (
	"comb/api"
	"comb/deed"
	"comb/plain"
	"comb/tabs"
)

// How many of each there are at most (L4).
const (
	maxStates  = 300
	maxTokens  = 1000
	maxNames   = 1000
	maxProds   = 200
	maxSymbols = 1000 // on a production's right side
)

// Make packs a grammar's tables (L1).
func Make(text string) (string, api.Errno, int) {
	cells, gotos, clashes, _, errno, at := tabs.Make(text)
	if errno != api.OK {
		return "", errno, at
	}
	if len(clashes) > 0 {
		return "", api.ErrClash, 0
	}
	made, _, _ := plain.Make(text)
	return written(newPack(made, cells, gotos)), api.OK, 0
}

// Pack is tables. Make it by Load.
type Pack struct {
	longRow
	tokens, names []string
	prods         []prod
	defaults      []int // of each state; 0: none, as production 0 is never reduced
}

// prod is what a pack tells of a production.
type prod struct {
	left, size int
}

// Load reads tables (L2).
func Load(b string) (*Pack, api.Errno) {
	p, ok := read(b)
	if !ok {
		return nil, api.ErrData
	}
	return p, api.OK
}

// Sizes tells how many states, tokens, names and productions there are (L3).
func (p *Pack) Sizes() (int, int, int, int) {
	return len(p.defaults), len(p.tokens), len(p.names), len(p.prods)
}

// Token tells a token (L3).
func (p *Pack) Token(i int) string { return item(p.tokens, i) }

// Name tells a name (L3).
func (p *Pack) Name(i int) string { return item(p.names, i) }

// Prod tells a production's left symbol, and how long it is (L3).
func (p *Pack) Prod(i int) (int, int) {
	found := item(p.prods, i)
	return found.left, found.size
}

// Action tells a cell (L3).
func (p *Pack) Action(state int, token int) api.Cell {
	if !within(state, len(p.defaults)) || !within(token, len(p.tokens)) {
		return api.Cell{}
	}
	cell := p.cell(state, token)
	if cell.Do == deed.Nothing && p.defaults[state] != 0 {
		return api.Cell{Do: deed.Reduce, To: p.defaults[state]}
	}
	return cell
}

// Goto tells where one goes by a name (L3).
func (p *Pack) Goto(state int, name int) int {
	if !within(state, len(p.defaults)) || !within(name, len(p.names)) {
		return 0
	}
	return p.cell(state, len(p.tokens)+name).To
}

func within(i, size int) bool { return 0 <= i && i < size }

// item tells what stands at a place of a list, nothing if there is no such place.
func item[T any](list []T, i int) T {
	if !within(i, len(list)) {
		var nothing T
		return nothing
	}
	return list[i]
}
