package fold_test

import (
	"fmt"
	"slices"
	"strings"
	"testing"

	"comb/api"
	"comb/fold"
)

func token(symbol, from int) api.Node {
	return api.Node{Symbol: symbol, Prod: -1, From: from, Words: 1}
}

func name(symbol, prod, from, words int, kids ...int) api.Node {
	return api.Node{Symbol: symbol, Prod: prod, Kids: kids, From: from, Words: words}
}

// TestNodes holds nodes that were worked out by hand against V1 and V2.
func TestNodes(t *testing.T) {
	for _, c := range []struct {
		text string
		row  []int
		want []api.Node
	}{
		{"s = A s | ;", []int{1}, []api.Node{token(1, 0), name(3, 2, 1, 0), name(3, 1, 0, 1, 0, 1)}},
		{"s = (A B)+;", []int{1, 2, 1, 2}, []api.Node{token(1, 0), token(2, 1), token(1, 2), token(2, 3), name(4, 1, 0, 4, 0, 1, 2, 3)}},
		{"l = C (X (D X)*)? E;", []int{1, 2, 3, 2, 4}, []api.Node{
			token(1, 0), token(2, 1), token(3, 2), token(2, 3), token(4, 4), name(6, 1, 0, 5, 0, 1, 2, 3, 4),
		}},
		{"l = C (X (D X)*)? E;", []int{1, 2, 4}, []api.Node{token(1, 0), token(2, 1), token(4, 2), name(6, 1, 0, 3, 0, 1, 2)}},
		{"l = C (X (D X)*)? E;", []int{1, 4}, []api.Node{token(1, 0), token(4, 1), name(6, 1, 0, 2, 0, 1)}},
		{"l = ((((A))))* B?;", nil, []api.Node{name(4, 1, 0, 0)}},
		{"l = ((((A))))* B?;", []int{1, 1, 2}, []api.Node{token(1, 0), token(1, 1), token(2, 2), name(4, 1, 0, 3, 0, 1, 2)}},
		// Rules within helpers stay, and so do helpers' own alts in their order.
		{"s = A | B (a | C a)*; a = D;", []int{2, 3, 4, 4}, []api.Node{
			token(2, 0), token(3, 1), token(4, 2), name(8, 6, 2, 1, 2), token(4, 3), name(8, 6, 3, 1, 4), name(6, 2, 0, 4, 0, 1, 3, 5),
		}},
	} {
		got, errno, at := fold.Parse(c.text, c.row)
		if errno != api.OK || at != 0 || fmt.Sprint(got) != fmt.Sprint(c.want) {
			t.Errorf("V1: Parse(%q, %v) = %v, %d, %d, want %v", c.text, c.row, got, errno, at, c.want)
		}
	}
}

// TestRefused holds errors of texts, and then those of rows, against V1.
func TestRefused(t *testing.T) {
	wrong := []int{9, -1, 0}
	for _, c := range []struct {
		text  string
		row   []int
		errno api.Errno
		at    int
	}{
		{"a=;" + strings.Repeat("\n", 1998), wrong, api.ErrLong, 0},
		{"a=A", wrong, api.ErrForm, 3},
		{"a=(((((((((A)))))))));", wrong, api.ErrDeep, 10},
		{"%left A B A;a=b;", wrong, api.ErrTwice, 10},
		{"a=A b;", wrong, api.ErrName, 4},
		{"a=;b=b;", wrong, api.ErrUnused, 3},
		{"a=b?;b=b;", wrong, api.ErrEndless, 5},
		{"a=" + strings.Repeat("|", 200) + ";", wrong, api.ErrMany, 0},
		{"a=" + strings.Repeat(" A", 299) + ";", wrong, api.ErrMany, 0},
		{"e = e A e | B;", wrong, api.ErrClash, 0},
		{"e = e A e | B;", []int{2}, api.ErrClash, 0},
		{"l = (((A?)?)?)?;", nil, api.ErrClash, 0},
		{"a=A*;", wrong, api.ErrWord, 0},
		{"a=A*;", []int{1, 1, 2}, api.ErrWord, 2},
		{"a=A* B;", []int{1, 1}, api.ErrWord, 2},
		{"%none A; e = Z | e A e;", []int{2, 1, 2, 1, 2}, api.ErrWord, 3},
		{"%left A; %left B; a = b a | A; b = %prec B;", []int{1}, api.ErrSteps, 0},
	} {
		if nodes, errno, at := fold.Parse(c.text, c.row); nodes != nil || errno != c.errno || at != c.at {
			t.Errorf("V1: Parse(%.60q, %v) = %v, %d, %d, want %d, %d", c.text, c.row, nodes, errno, at, c.errno, c.at)
		}
	}
}

// TestLong holds helpers as deep in one another as a row is long against G1 and V1.
func TestLong(t *testing.T) {
	const words = 200000
	row := slices.Repeat([]int{1}, words)
	for text, count := range map[string]int{"s = A*;": words + 1, "s = (A)+;": words + 1, "s = A s | ;": 2*words + 1, "s = s A | ;": 2*words + 1} {
		nodes, errno, at := fold.Parse(text, row)
		if errno != api.OK || at != 0 || len(nodes) != count || nodes[count-1].Words != words {
			t.Errorf("V1: %d words of %q: %d nodes, %d, %d", words, text, len(nodes), errno, at)
		}
	}
}
