package look

import (
	"slices"

	"comb/api"
)

// looker finds what may stand ahead of the productions that begin at each step. That is all that F1 needs: a spot further on is come to from the beginnings of its production alone, and has what they have together.
type looker struct {
	machine
	empty   []bool
	first   []tokens // of each symbol
	places  map[step]int
	steps   []step
	ahead   []tokens // of each step
	waiting []int    // places of steps that have something to hand on
	waits   []bool   // of each step: whether it is in waiting
}

// settle hands tokens on from step to step until no set grows.
func (l *looker) settle() {
	l.place(l.start())
	for len(l.waiting) > 0 {
		from := l.waiting[0]
		l.waiting = l.waiting[1:]
		l.waits[from] = false
		for inner, behind := range l.names(l.steps[from]) {
			to := l.place(inner)
			if l.handOn(from, to, behind) {
				l.wait(to)
			}
		}
	}
}

// start tells the one step that no production takes: the one at which production 0 begins.
func (l *looker) start() step { return step{0, l.plain.Prods[0].Left} }

// place tells a step's place. One that is new waits even if nothing is handed to it, as the steps within it are found by it.
func (l *looker) place(s step) int {
	place, known := l.places[s]
	if known {
		return place
	}
	place = len(l.steps)
	l.places[s] = place
	l.steps = append(l.steps, s)
	l.waits = append(l.waits, false)
	l.ahead = append(l.ahead, l.atFirst(s))
	l.wait(place)
	return place
}

// atFirst makes a step's set: the end stands ahead at the start alone.
func (l *looker) atFirst(s step) tokens {
	set := newTokens(len(l.plain.Tokens))
	if s == l.start() {
		set.put(0)
	}
	return set
}

func (l *looker) wait(place int) {
	if !l.waits[place] {
		l.waits[place] = true
		l.waiting = append(l.waiting, place)
	}
}

// handOn puts into a step's set what may stand ahead of its name by one production of another step, in which symbols stand behind the name; it tells whether the set grew.
func (l *looker) handOn(from, to int, behind []int) bool {
	grew := false
	for _, symbol := range behind {
		grew = l.ahead[to].join(l.first[symbol]) || grew
		if !l.empty[symbol] {
			return grew
		}
	}
	return l.ahead[to].join(l.ahead[from]) || grew
}

// answer tells for each state what its productions end with.
func (l *looker) answer(states int) [][]api.Ahead {
	places, sets := l.atEnds()
	answer := make([][]api.Ahead, states)
	for i := range answer {
		for prod := range l.plain.Prods {
			if place, ends := places[end{i, prod}]; ends {
				answer[i] = append(answer[i], api.Ahead{Prod: prod, Tokens: slices.Collect(sets[place].rising())})
			}
		}
	}
	return answer
}

// atEnds tells what may stand ahead of each production with its dot at the end: where its set has its place, and the sets.
func (l *looker) atEnds() (map[end]int, []tokens) {
	places := map[end]int{}
	var sets []tokens
	for i, s := range l.steps {
		for e := range l.ends(s) {
			place, known := places[e]
			if !known {
				place = len(sets)
				places[e] = place
				sets = append(sets, newTokens(len(l.plain.Tokens)))
			}
			sets[place].join(l.ahead[i])
		}
	}
	return places, sets
}
