// Package plain makes productions of a grammar: see doc/02-plain.md.
package plain

import (
	"comb/api"
	"comb/gram"
)

// maxProds is MaxProds.
const maxProds = 200

// Make tells a grammar's productions (B1 to B4).
func Make(text string) (api.Plain, api.Errno, int) {
	grammar, errno, at := gram.Parse(text)
	if errno != api.OK {
		return api.Plain{}, errno, at
	}
	words := wordsOf(text)
	errno, at = firstFault(grammar.Rules, words)
	if errno != api.OK {
		return api.Plain{}, errno, at
	}
	plain := produce(grammar, words)
	if len(plain.Prods) > maxProds {
		return api.Plain{}, api.ErrMany, 0
	}
	return plain, api.OK, 0
}

// Sets tells what can be empty, and with what each symbol can begin (B5).
func Sets(text string) ([]bool, [][]int, api.Errno, int) {
	plain, errno, at := Make(text)
	if errno != api.OK {
		return nil, nil, errno, at
	}
	empty := canBeEmpty(plain)
	return empty, firstTokens(plain, empty), api.OK, 0
}
