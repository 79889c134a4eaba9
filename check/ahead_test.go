package check

import (
	"fmt"
	"maps"
	"slices"
	"testing"

	"comb/api"
	"comb/look"
	"comb/plain"
)

// place is a spot in a state.
type place struct {
	state int
	spot  api.Spot
}

// aheads are sets of tokens, that of each place.
type aheads map[place]map[int]bool

func (a aheads) put(state int, spot api.Spot, token int) {
	at := place{state, spot}
	if a[at] == nil {
		a[at] = map[int]bool{}
	}
	a[at][token] = true
}

func (a aheads) size() int {
	size := 0
	for _, set := range a {
		size += len(set)
	}
	return size
}

// grammar is what F1 and F3 are told by.
type grammar struct {
	made  api.Plain
	empty []bool
	first [][]int
}

func grammarOf(text string, made api.Plain) grammar {
	empty, first, _, _ := plain.Sets(text)
	return grammar{made, empty, first}
}

// begins tells the first tokens of symbols and a token behind them.
func (g grammar) begins(symbols []int, token int) []int {
	var out []int
	for _, symbol := range symbols {
		out = append(out, g.first[symbol]...)
		if !g.empty[symbol] {
			return out
		}
	}
	return append(out, token)
}

// least tells F1's sets: its three sentences are held against all places again until no set grows.
func (g grammar) least() (aheads, int) {
	kernels, edges := statesOf(g.made)
	found := aheads{}
	found.put(0, api.Spot{}, 0)
	for size := 0; size < found.size(); {
		size = found.size()
		for at, set := range maps.Clone(found) {
			rest := behind(g.made, at.spot)
			for token := range maps.Clone(set) {
				g.oneOn(found, at, rest, token, edges)
			}
		}
	}
	return found, len(kernels)
}

// oneOn does what F1 asks if a token may stand ahead of a place.
func (g grammar) oneOn(found aheads, at place, rest []int, token int, edges []api.Edge) {
	if len(rest) == 0 {
		return
	}
	for _, edge := range edges {
		if edge.From == at.state && edge.Symbol == rest[0] {
			found.put(edge.To, api.Spot{Prod: at.spot.Prod, Dot: at.spot.Dot + 1}, token)
		}
	}
	for number, prod := range g.made.Prods {
		if prod.Left == rest[0] {
			for _, next := range g.begins(rest[1:], token) {
				found.put(at.state, api.Spot{Prod: number, Dot: 0}, next)
			}
		}
	}
}

// longSpot is a spot with one token, longState a set of these.
type longSpot struct {
	spot  api.Spot
	token int
}

type longState map[longSpot]bool

func (g grammar) longClosure(s longState) longState {
	out := maps.Clone(s)
	for work := slices.Collect(maps.Keys(s)); len(work) > 0; work = work[1:] {
		rest := behind(g.made, work[0].spot)
		if len(rest) == 0 {
			continue
		}
		for number, prod := range g.made.Prods {
			if prod.Left != rest[0] {
				continue
			}
			for _, token := range g.begins(rest[1:], work[0].token) {
				if next := (longSpot{api.Spot{Prod: number}, token}); !out[next] {
					out[next] = true
					work = append(work, next)
				}
			}
		}
	}
	return out
}

// longStates tells F3's long states, with their closures; none, if there are more than most.
func (g grammar) longStates(most int) []longState {
	found := []longState{g.longClosure(longState{longSpot{}: true})}
	seen := map[string]bool{fmt.Sprint(found[0]): true}
	for i := 0; i < len(found); i++ {
		next := map[int]longState{}
		for at := range found[i] {
			if rest := behind(g.made, at.spot); len(rest) > 0 {
				if next[rest[0]] == nil {
					next[rest[0]] = longState{}
				}
				next[rest[0]][longSpot{api.Spot{Prod: at.spot.Prod, Dot: at.spot.Dot + 1}, at.token}] = true
			}
		}
		for _, kernel := range next {
			if closed := g.longClosure(kernel); !seen[fmt.Sprint(closed)] {
				seen[fmt.Sprint(closed)] = true
				found = append(found, closed)
			}
		}
		if len(found) > most {
			return nil
		}
	}
	return found
}

// together tells what may stand ahead in all long states that have just a state's spots, and how many long states each state has.
func (g grammar) together(long []longState) (aheads, []int) {
	kernels, _ := statesOf(g.made)
	out := aheads{}
	counts := make([]int, len(kernels))
	for _, s := range long {
		bare := spots{}
		for at := range s {
			bare[at.spot] = true
		}
		state := slices.IndexFunc(kernels, func(kernel spots) bool { return maps.Equal(closure(g.made, kernel), bare) })
		counts[state]++
		for at := range s {
			out.put(state, at.spot, at.token)
		}
	}
	return out, counts
}

// told tells F2's answer.
func (a aheads) told(made api.Plain, states int) [][]api.Ahead {
	out := make([][]api.Ahead, states)
	for state := range out {
		for number, prod := range made.Prods {
			if set := a[place{state, api.Spot{Prod: number, Dot: len(prod.Right)}}]; set != nil {
				out[state] = append(out[state], api.Ahead{Prod: number, Tokens: slices.Sorted(maps.Keys(set))})
			}
		}
	}
	return out
}

func TestLook(t *testing.T) {
	several := 0
	eachGrammar(t, 5, func(text string, made api.Plain) {
		found, states := grammarOf(text, made).least()
		want := found.told(made, states)
		got, errno, at := look.Look(text)
		if errno != api.OK || at != 0 || fmt.Sprint(got) != fmt.Sprint(want) {
			t.Errorf("F1, F2: Look(%q) = %v, %d, %d, want %v", text, got, errno, at, want)
		}
		if slices.ContainsFunc(want, func(list []api.Ahead) bool { return len(list) > 1 }) {
			several++
		}
	})
	if several < 100 {
		t.Errorf("only %d of the grammars had a state with several productions at their end", several)
	}
}

func TestLongStates(t *testing.T) {
	parted := 0
	eachGrammar(t, 6, func(text string, made api.Plain) {
		g := grammarOf(text, made)
		long := g.longStates(200)
		if long == nil {
			return
		}
		want, counts := g.together(long)
		got, errno, _ := look.Look(text)
		if told := want.told(made, len(counts)); errno != api.OK || fmt.Sprint(got) != fmt.Sprint(told) {
			t.Errorf("F3: Look(%q) = %v, %d, the long states have %v", text, got, errno, told)
		}
		if slices.Max(counts) > 1 {
			parted++
		}
	})
	if parted < 100 {
		t.Errorf("only %d of the grammars had states whose long states part", parted)
	}
}
