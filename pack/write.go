package pack

import "comb/deed"

// How many bytes each thing has: as many as L1 grants it at most, and enough for whatever a pack may hold (L4).
const (
	sizeBytes    = 2 // a size less 1
	lengthBytes  = 1 // of a word
	leftBytes    = 2
	symbolsBytes = 2
	defaultBytes = 1
	beginBytes   = 3 // as rows begin below maxStates * (maxTokens + maxNames)
	toldBytes    = 3 // how many places of the long row are told
	gapBytes     = 2 // how many places that no row has stand ahead of one that is told: fewer than a row has
	stateBytes   = 2
	cellBytes    = 2
	sumBytes     = 4
)

// toBits is how many bits of a cell's bytes tell its To; those above tell its Do.
const toBits = 12

// writer puts things one behind the other.
type writer struct{ bytes []byte }

// number puts a number, its highest byte first.
func (w *writer) number(bytes, number int) {
	for i := bytes - 1; i >= 0; i-- {
		w.bytes = append(w.bytes, byte(number>>(8*i)))
	}
}

func (w *writer) words(words []string) {
	for _, word := range words {
		w.number(lengthBytes, len(word))
		w.bytes = append(w.bytes, word...)
	}
}

func (w *writer) places(places []place) {
	count := 0
	for _, one := range places {
		if one.Do != deed.Nothing {
			count++
		}
	}
	w.number(toldBytes, count)
	gap := 0
	for _, one := range places {
		if one.Do == deed.Nothing {
			gap++
			continue
		}
		w.number(gapBytes, gap)
		w.number(stateBytes, one.state)
		w.number(cellBytes, one.Do<<toBits|one.To)
		gap = 0
	}
}

// written tells a pack's bytes.
func written(p *Pack) string {
	var w writer
	for _, size := range []int{len(p.defaults), len(p.tokens), len(p.names), len(p.prods)} {
		w.number(sizeBytes, size-1)
	}
	w.words(p.tokens)
	w.words(p.names)
	for _, one := range p.prods {
		w.number(leftBytes, one.left-len(p.tokens))
		w.number(symbolsBytes, one.size)
	}
	for state, usual := range p.defaults {
		w.number(defaultBytes, usual)
		w.number(beginBytes, p.begins[state])
	}
	w.places(p.places)
	w.number(sumBytes, int(sum(w.bytes)))
	return string(w.bytes)
}
