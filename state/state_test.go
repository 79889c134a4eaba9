package state_test

import (
	"fmt"
	"slices"
	"strings"
	"testing"

	"comb/api"
	"comb/state"
)

// told writes kernels and edges: of each state its spots, each as production and dot, and behind them where each symbol goes.
func told(kernels [][]api.Spot, edges []api.Edge) []string {
	out := make([]string, len(kernels))
	for i, kernel := range kernels {
		var words []string
		for _, spot := range kernel {
			words = append(words, fmt.Sprintf("%d.%d", spot.Prod, spot.Dot))
		}
		for _, edge := range edges {
			if edge.From == i {
				words = append(words, fmt.Sprintf("%d>%d", edge.Symbol, edge.To))
			}
		}
		out[i] = strings.Join(words, " ")
	}
	return out
}

func TestWorkedOut(t *testing.T) {
	for _, c := range []struct {
		what, text string
		want       []string
	}{
		// tokens $; names $start 1, a 2
		{"nothing", "a=;", []string{"0.0 2>1", "0.1"}},
		// tokens $ A; names $start 2, a 3, a'1 4; productions 2 a'1 =, 3 a'1 = a'1 A
		{"a helper", "a=A*;", []string{"0.0 3>1 4>2", "0.1", "1.1 3.1 1>3", "3.2"}},
		// tokens $ A B C D E; names $start 6, e 7, t 8, f 9
		{"several edges to one state", "e=e A t|t;t=t B f|f;f=C e D|E;", []string{
			"0.0 3>1 5>2 7>3 8>4 9>5", "5.1 3>1 5>2 7>6 8>4 9>5", "6.1", "0.1 1.1 1>7", "2.1 3.1 2>8", "4.1",
			"1.1 5.2 1>7 4>9", "1.2 3>1 5>2 8>10 9>5", "3.2 3>1 5>2 9>11", "5.3", "1.3 3.1 2>8", "3.3"}},
		// tokens $ C A B; names $start 4, s 5, l 6, r 7
		{"a state that is a part of another one", "s=l C r|r;l=A r|B;r=l;", []string{
			"0.0 2>1 3>2 5>3 6>4 7>5", "3.1 2>1 3>2 6>6 7>7", "4.1", "0.1", "1.1 5.1 1>8", "2.1", "5.1", "3.2", "1.2 2>1 3>2 6>6 7>9", "1.3"}},
		// tokens $ A B; names $start 3, a 4, b 5, c 6
		{"a ring of names that can be empty", "a=b|A;b=c|;c=a|B;", []string{
			"0.0 1>1 2>2 4>3 5>4 6>5", "2.1", "6.1", "0.1 5.1", "1.1", "3.1"}},
		// tokens $ A B Z; names $start 4, s 5, a 6, b 7, c 8
		{"several ends in one state", "s=a A|b B|c;a=Z;b=Z;c=Z;", []string{
			"0.0 3>1 5>2 6>3 7>4 8>5", "4.1 5.1 6.1", "0.1", "1.1 1>6", "2.1 2>7", "3.1", "1.2", "2.2"}},
		// tokens $ A; names $start 2, a 3
		{"one production at several dots", "a=a a A|A;", []string{
			"0.0 1>1 3>2", "2.1", "0.1 1.1 1>1 3>3", "1.1 1.2 1>4 3>3", "1.3 2.1"}},
		// tokens $ B A; names $start 3, a 4: the symbols count, not where they stand
		{"rising by symbol", "%left B;a=A A|B;", []string{"0.0 1>1 2>2 4>3", "2.1", "1.1 2>4", "0.1", "1.2"}},
	} {
		kernels, edges, errno, at := state.States(c.text)
		if errno != api.OK || at != 0 {
			t.Errorf("D3: %s: States(%q) = %d, %d", c.what, c.text, errno, at)
		}
		if got := told(kernels, edges); !slices.Equal(got, c.want) {
			t.Errorf("D1 to D3: %s: States(%q) = %q, want %q", c.what, c.text, got, c.want)
		}
		before := func(a, b api.Edge) int { return (a.From-b.From)*1000 + a.Symbol - b.Symbol }
		if !slices.IsSortedFunc(edges, before) {
			t.Errorf("D3: %s: the edges do not rise: %v", c.what, edges)
		}
	}
}

// TestLimit tells just as many states as there may be, and one more: of a row of A, state 0, one behind each A, and one behind the rule.
func TestLimit(t *testing.T) {
	text := "a=" + strings.Repeat(" A", 298)
	kernels, edges, errno, at := state.States(text + ";")
	if len(kernels) != 300 || len(edges) != 299 || errno != api.OK || at != 0 {
		t.Errorf("D3: %d states, %d edges, %d, %d", len(kernels), len(edges), errno, at)
	}
	if want := []api.Spot{{Prod: 1, Dot: 298}}; !slices.Equal(kernels[299], want) {
		t.Errorf("D2: the last state is %v, want %v", kernels[299], want)
	}
	kernels, edges, errno, at = state.States(text + " A;")
	if kernels != nil || edges != nil || errno != api.ErrMany || at != 0 {
		t.Errorf("D3: %d states, %d edges, %d, %d", len(kernels), len(edges), errno, at)
	}
}
