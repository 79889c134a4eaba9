package pack

import (
	"strings"

	"comb/api"
	"comb/deed"
)

// reader takes things off bytes, one behind the other. What cannot be taken is taken as 0, and makes the bytes bad.
type reader struct {
	rest string
	bad  bool
}

func (r *reader) number(bytes int) uint32 {
	if len(r.rest) < bytes {
		r.bad = true
		return 0
	}
	number := uint32(0)
	for i := range bytes {
		number = number<<8 | uint32(r.rest[i])
	}
	r.rest = r.rest[bytes:]
	return number
}

// below takes a number that must be less than a bound.
func (r *reader) below(bound, bytes int) int {
	number := int(r.number(bytes))
	if number >= bound {
		r.bad = true
		return 0
	}
	return number
}

func (r *reader) size(most int) int { return 1 + r.below(most, sizeBytes) }

func (r *reader) words(count int) []string {
	words := make([]string, count)
	for i := range words {
		length := int(r.number(lengthBytes))
		if length > len(r.rest) {
			r.bad = true
			return words
		}
		words[i] = strings.Clone(r.rest[:length])
		r.rest = r.rest[length:]
	}
	return words
}

// places takes the long row of a pack of which all else is there. Few bytes must not ask for much memory: there are no more places than all rows have together.
func (r *reader) places(p *Pack) {
	most := len(p.begins) * (len(p.tokens) + len(p.names))
	for range r.below(most+1, toldBytes) {
		gap := int(r.number(gapBytes))
		state := r.below(len(p.begins), stateBytes)
		number := int(r.number(cellBytes))
		cell := api.Cell{Do: number >> toBits, To: number & (1<<toBits - 1)}
		at := len(p.places) + gap
		if r.bad || at >= most || !p.mayHave(cell, at-p.begins[state]) {
			r.bad = true
			return
		}
		p.places = append(p.places, make([]place, gap)...)
		p.places = append(p.places, place{cell, state})
	}
}

// mayHave tells whether a told cell for a symbol is as L4 asks.
func (p *Pack) mayHave(cell api.Cell, symbol int) bool {
	least := [...]int{deed.Shift: 1, deed.Reduce: 1, deed.Accept: 0, deed.Never: 0}
	bound := [...]int{deed.Shift: len(p.begins), deed.Reduce: len(p.prods), deed.Accept: 1, deed.Never: 1}
	if cell.Do >= len(bound) || cell.To < least[cell.Do] || cell.To >= bound[cell.Do] {
		return false
	}
	isName := within(symbol-len(p.tokens), len(p.names))
	return within(symbol, len(p.tokens)) || isName && cell.Do == deed.Shift
}

// read tells the pack that bytes are, and whether they are one.
func read(b string) (*Pack, bool) {
	r := reader{rest: b}
	states, tokens, names, prods := r.size(maxStates), r.size(maxTokens), r.size(maxNames), r.size(maxProds)
	p := &Pack{tokens: r.words(tokens), names: r.words(names)}
	for range prods {
		p.prods = append(p.prods, prod{tokens + r.below(names, leftBytes), r.below(maxSymbols+1, symbolsBytes)})
	}
	for range states {
		p.defaults = append(p.defaults, r.below(prods, defaultBytes))
		p.begins = append(p.begins, int(r.number(beginBytes)))
	}
	r.places(p)
	want := sum(b[:len(b)-len(r.rest)])
	got := r.number(sumBytes)
	return p, !r.bad && got == want && r.rest == ""
}
