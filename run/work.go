package run

import (
	"comb/api"
	"comb/deed"
	"comb/pack"
)

// A row may take so many steps for each of its words, and for some words more.
const (
	stepsOfWord = 200
	wordsMore   = 5
)

// shift stands among steps for a shift; the others are reductions, each told by its production.
const shift = -1

// worker works a row by a pack (K4). It makes no nodes: work that never ends makes many steps ahead of ErrSteps, so what is kept of each is as small as L4 lets it be.
type worker struct {
	pack   *pack.Pack
	row    []int
	passed int     // how many words
	pile   []int16 // states
	steps  []int16
}

// work works the row as far as it goes, and tells what M1 answers beside the nodes.
func (w *worker) work() (api.Errno, int) {
	most := stepsOfWord * (len(w.row) + wordsMore)
	for {
		cell := w.pack.Action(w.uppermost(), w.ahead())
		switch {
		case cell.Do == deed.Accept:
			return api.OK, 0
		case !w.can(cell):
			return api.ErrWord, w.passed
		case len(w.steps) == most:
			return api.ErrSteps, 0
		}
		w.step(cell)
	}
}

func (w *worker) uppermost() int { return int(w.pile[len(w.pile)-1]) }

// ahead tells the next token. A word that is 0 is not the end, but a token that no pack has.
func (w *worker) ahead() int {
	if w.passed == len(w.row) {
		return 0
	}
	if w.row[w.passed] == 0 {
		return -1
	}
	return w.row[w.passed]
}

// can tells whether a cell has a step that can be made. A shift at the end, or a production that is longer than the pile, is in no pack of a text, but may be in other bytes.
func (w *worker) can(cell api.Cell) bool {
	switch cell.Do {
	case deed.Shift:
		return w.passed < len(w.row)
	case deed.Reduce:
		_, size := w.pack.Prod(cell.To)
		return size < len(w.pile)
	}
	return false
}

func (w *worker) step(cell api.Cell) {
	if cell.Do == deed.Shift {
		w.passed++
		w.put(cell.To, shift)
		return
	}
	left, size := w.pack.Prod(cell.To)
	w.pile = w.pile[:len(w.pile)-size]
	_, tokens, _, _ := w.pack.Sizes()
	w.put(w.pack.Goto(w.uppermost(), left-tokens), cell.To)
}

func (w *worker) put(state, step int) {
	w.pile = append(w.pile, int16(state))
	w.steps = append(w.steps, int16(step))
}
