package look

import (
	"iter"
	"math/bits"
)

const wordBits = 64

// tokens is a set of tokens, a bit for each.
type tokens []uint64

// newTokens makes an empty set, for as many tokens as there are.
func newTokens(count int) tokens { return make(tokens, (count+wordBits-1)/wordBits) }

// setsOf makes sets of lists of tokens.
func setsOf(lists [][]int, count int) []tokens {
	sets := make([]tokens, len(lists))
	for i, list := range lists {
		sets[i] = newTokens(count)
		for _, token := range list {
			sets[i].put(token)
		}
	}
	return sets
}

func (t tokens) put(token int) { t[token/wordBits] |= 1 << (token % wordBits) }

// join puts all of another set into this one, and tells whether it grew.
func (t tokens) join(other tokens) bool {
	grew := false
	for i, word := range other {
		if word&^t[i] != 0 {
			t[i] |= word
			grew = true
		}
	}
	return grew
}

// rising goes through the set's tokens.
func (t tokens) rising() iter.Seq[int] {
	return func(yield func(int) bool) {
		for i, word := range t {
			for ; word != 0; word &= word - 1 {
				if !yield(i*wordBits + bits.TrailingZeros64(word)) {
					return
				}
			}
		}
	}
}
