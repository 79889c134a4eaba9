// Package gram: a grammar's text: see doc/01-gram.md.
package gram

import (
	"comb/api"
	"comb/sign"
)

const (
	maxText = 2000 // MaxText
	maxNest = 8    // MaxNest
)

// Parse tells a grammar (A1, A2).
func Parse(text string) (grammar api.Grammar, errno api.Errno, at int) {
	defer func() {
		if thrown := recover(); thrown != nil {
			end := endingOf(thrown)
			grammar, errno, at = api.Grammar{}, end.errno, end.at
		}
	}()
	if len(text) > maxText {
		return api.Grammar{}, api.ErrLong, 0
	}
	reader := ruleReader{signReader: signReader{signs: sign.All(text)}}
	return reader.grammar(), api.OK, 0
}

// Print writes a grammar in its plain form (A3).
func Print(text string) (string, api.Errno, int) {
	_, errno, at := Parse(text)
	if errno != api.OK {
		return "", errno, at
	}
	return plainForm(sign.All(text)), api.OK, 0
}
