// Package pack makes bytes of tables: see doc/06-pack.md.
package pack

import "comb/api"

// Make packs a grammar's tables (L1).
func Make(text string) (string, api.Errno, int) { return "", api.OK, 0 }

// Pack is tables. Make it by Load.
type Pack struct{}

// Load reads tables (L2).
func Load(b string) (*Pack, api.Errno) { return nil, api.OK }

// Sizes tells how many states, tokens, names and productions there are (L3).
func (p *Pack) Sizes() (int, int, int, int) { return 0, 0, 0, 0 }

// Token tells a token (L3).
func (p *Pack) Token(i int) string { return "" }

// Name tells a name (L3).
func (p *Pack) Name(i int) string { return "" }

// Prod tells a production's left symbol, and how long it is (L3).
func (p *Pack) Prod(i int) (int, int) { return 0, 0 }

// Action tells a cell (L3).
func (p *Pack) Action(state int, token int) api.Cell { return api.Cell{} }

// Goto tells where one goes by a name (L3).
func (p *Pack) Goto(state int, name int) int { return 0 }
