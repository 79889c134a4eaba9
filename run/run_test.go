package run_test

import (
	"fmt"
	"math"
	"math/rand"
	"slices"
	"strings"
	"testing"

	"comb/api"
	"comb/pack"
	"comb/run"
)

func mustPack(t *testing.T, text string) string {
	t.Helper()
	b, errno, at := pack.Make(text)
	if errno != api.OK {
		t.Fatalf("L1: Make(%.60q) = %d, %d", text, errno, at)
	}
	return b
}

// token tells the node of a shift.
func token(symbol, from int) api.Node {
	return api.Node{Symbol: symbol, Prod: -1, From: from, Words: 1}
}

// name tells the node of a reduction.
func name(symbol, prod, from, words int, kids ...int) api.Node {
	return api.Node{Symbol: symbol, Prod: prod, Kids: kids, From: from, Words: words}
}

func sameNode(a, b api.Node) bool {
	return a.Symbol == b.Symbol && a.Prod == b.Prod && a.From == b.From && a.Words == b.Words && slices.Equal(a.Kids, b.Kids)
}

// TestNodes holds nodes that were worked out by hand against M1 and M2.
func TestNodes(t *testing.T) {
	for _, c := range []struct {
		text string
		row  []int
		want []api.Node
	}{
		{"a = A;", []int{1}, []api.Node{token(1, 0), name(3, 1, 0, 1, 0)}},
		{"s = A s | ;", nil, []api.Node{name(3, 2, 0, 0)}},
		{"s = A s | ;", []int{}, []api.Node{name(3, 2, 0, 0)}},
		{"s = A s | ;", []int{1, 1}, []api.Node{token(1, 0), token(1, 1), name(3, 2, 2, 0), name(3, 1, 1, 1, 1, 2), name(3, 1, 0, 2, 0, 3)}},
		{"s = s A | ;", []int{1, 1}, []api.Node{name(3, 2, 0, 0), token(1, 0), name(3, 1, 0, 1, 0, 1), token(1, 1), name(3, 1, 0, 2, 2, 3)}},
		{"%left A; %left B; e = Z | e A e | e B e;", []int{3, 1, 3, 2, 3}, []api.Node{
			token(3, 0), name(5, 1, 0, 1, 0), token(1, 1), token(3, 2), name(5, 1, 2, 1, 3), token(2, 3), token(3, 4), name(5, 1, 4, 1, 6),
			name(5, 3, 2, 3, 4, 5, 7), name(5, 2, 0, 5, 1, 2, 8),
		}},
		{"%left A; %left B; e = Z | e A e | e B e;", []int{3, 2, 3, 1, 3}, []api.Node{
			token(3, 0), name(5, 1, 0, 1, 0), token(2, 1), token(3, 2), name(5, 1, 2, 1, 3), name(5, 3, 0, 3, 1, 2, 4), token(1, 3),
			token(3, 4), name(5, 1, 4, 1, 7), name(5, 2, 0, 5, 5, 6, 8),
		}},
		{"l = C (X (D X)*)? E;", []int{1, 2, 3, 2, 4}, []api.Node{
			token(1, 0), token(2, 1), name(8, 4, 2, 0), token(3, 2), token(2, 3), name(8, 5, 2, 2, 2, 3, 4), name(7, 3, 1, 3, 1, 5),
			token(4, 4), name(6, 1, 0, 5, 0, 6, 7),
		}},
		{"l = C (X (D X)*)? E;", []int{1, 4}, []api.Node{token(1, 0), name(7, 2, 1, 0), token(4, 1), name(6, 1, 0, 2, 0, 1, 2)}},
		// A production that begins with one without symbols begins where that one does.
		{"s = A a b; a = b B b; b = ;", []int{1, 2}, []api.Node{
			token(1, 0), name(6, 3, 1, 0), token(2, 1), name(6, 3, 2, 0), name(5, 2, 1, 1, 1, 2, 3), name(6, 3, 2, 0), name(4, 1, 0, 2, 0, 4, 5),
		}},
	} {
		got, errno, at := run.Parse(mustPack(t, c.text), c.row)
		if errno != api.OK || at != 0 || !slices.EqualFunc(got, c.want, sameNode) {
			t.Errorf("M1, M2: Parse(%q, %v) = %v, %d, %d, want %v", c.text, c.row, got, errno, at, c.want)
		}
	}
}

func checkRefused(t *testing.T, what, b string, row []int, want api.Errno, wantAt int) {
	t.Helper()
	if nodes, errno, at := run.Parse(b, row); nodes != nil || errno != want || at != wantAt {
		t.Errorf("M1: Parse(%.60q, %.60s) = %d nodes, %d, %d, want none, %d, %d", what, fmt.Sprint(row), len(nodes), errno, at, want, wantAt)
	}
}

func TestWrongRows(t *testing.T) {
	const nest, list, right, none = "s = A s B | C;", "s = A s | ;", "%right A; e = Z | e A e;", "%none A; e = Z | e A e;"
	for _, c := range []struct {
		text string
		row  []int
		at   int
	}{
		{nest, nil, 0},
		{nest, []int{1}, 1},
		{nest, []int{1, 3}, 2},
		{nest, []int{1, 2}, 1},
		{nest, []int{3, 3}, 1},
		{nest, []int{1, 3, 2, 2}, 3},
		{nest, []int{1, 3, 2, 1, 3, 2}, 3},
		// At each of these numbers nothing is done, whatever else could be with the end, or by default.
		{nest, []int{1, 3, 0}, 2},
		{nest, []int{3, 0}, 1},
		{nest, []int{3, 4}, 1},
		{list, []int{0}, 0},
		{list, []int{1, 1, 0, 1}, 2},
		{list, []int{1, -1}, 1},
		{list, []int{1, 2}, 1},
		{list, []int{1, 3}, 1},
		{list, []int{1, math.MaxInt}, 1},
		{list, []int{1, math.MinInt}, 1},
		{list, []int{math.MaxInt32 + 2, 1}, 0},
		{list, []int{1<<32 + 1}, 0},
		{list, []int{1<<16 + 1}, 0},
		{right, []int{2, 1}, 2},
		{right, []int{2, 2}, 1},
		// Nothing, by its level.
		{none, []int{2, 1, 2, 1, 2}, 3},
		{none, []int{2, 1, 2, 2}, 3},
	} {
		checkRefused(t, c.text, mustPack(t, c.text), c.row, api.ErrWord, c.at)
	}
}

// empties tells a grammar whose rows of so many words A take so many steps, but for the last one: those words, and productions without symbols.
func empties(words, steps int, end string) string {
	steps -= words
	return "a =" + strings.Repeat(" A", words) + strings.Repeat(" b", steps/40) + strings.Repeat(" c", steps%40) + end + "; b =" + strings.Repeat(" c", 39) + "; c = ;"
}

// TestManySteps holds rows that take just as many steps as they may, and one more, against M1.
func TestManySteps(t *testing.T) {
	for _, words := range []int{0, 1, 2, 5} {
		most := 200 * (words + 5)
		row := slices.Repeat([]int{1}, words)
		nodes, errno, at := run.Parse(mustPack(t, empties(words, most-1, "")), row)
		if len(nodes) != most || errno != api.OK || at != 0 {
			t.Errorf("M1: %d words, %d steps: %d nodes, %d, %d", words, most, len(nodes), errno, at)
		}
		checkRefused(t, "one step more", mustPack(t, empties(words, most, "")), row, api.ErrSteps, 0)
		checkRefused(t, "a word that is missing behind the last step", mustPack(t, empties(words, most, " D")), row, api.ErrWord, words)
		checkRefused(t, "a word that is missing behind one step more", mustPack(t, empties(words, most+1, " D")), row, api.ErrSteps, 0)
	}
}

// TestEndless holds steps that pass no word, and never end, against M1.
func TestEndless(t *testing.T) {
	const endless = "%left A; %left B; a = b a | A; b = %prec B;"
	const behind = "%left A; %left B; s = B a; a = b a | A; b = %prec B;"
	for _, c := range []struct {
		text  string
		row   []int
		errno api.Errno
		at    int
	}{
		{endless, []int{1}, api.ErrSteps, 0},
		{endless, nil, api.ErrSteps, 0},
		{endless, []int{2}, api.ErrSteps, 0},
		{endless, make([]int, 1000), api.ErrWord, 0},
		{endless, []int{3, 1}, api.ErrWord, 0},
		{endless, slices.Repeat([]int{1}, 1000), api.ErrSteps, 0},
		{behind, []int{1}, api.ErrWord, 0},
		{behind, []int{2, 1}, api.ErrSteps, 0},
		{behind, []int{2}, api.ErrSteps, 0},
		{behind, []int{2, 0}, api.ErrWord, 1},
	} {
		checkRefused(t, c.text, mustPack(t, c.text), c.row, c.errno, c.at)
	}
}

// TestLong holds rows of many words against G1 and M2.
func TestLong(t *testing.T) {
	const words = 200000
	row := slices.Repeat([]int{1}, words)
	for _, text := range []string{"s = A s | ;", "s = s A | ;", "s = A*;", "s = A+;"} {
		nodes, errno, at := run.Parse(mustPack(t, text), row)
		if errno != api.OK || at != 0 || nodes[len(nodes)-1].Words != words {
			t.Errorf("M1: %d words of %q: %d nodes, %d, %d", words, text, len(nodes), errno, at)
		}
	}
}

func TestWrongBytes(t *testing.T) {
	b := mustPack(t, "a=A*;")
	wrong := []string{"", "\x00", "a=A*;", b[1:], b[:len(b)-1], b + "\x00", b + b, strings.Repeat("\xff", 1000), strings.Repeat("\x00", 1000)}
	r := rand.New(rand.NewSource(1))
	for range 2000 {
		any := make([]byte, r.Intn(100))
		for i := range any {
			any[i] = byte(r.Intn(1 + r.Intn(256)))
		}
		wrong = append(wrong, string(any))
	}
	for _, b := range wrong {
		for _, row := range [][]int{nil, {1}, {0, -1, math.MaxInt}} {
			checkRefused(t, b, b, row, api.ErrData, 0)
		}
	}
}
