package check

import (
	"fmt"
	"slices"
	"testing"

	"comb/api"
	"comb/tabs"
)

// table is what tabs.Make answers.
type table struct {
	cells   [][]api.Cell
	gotos   [][]int
	clashes []api.Clash
	settled int
}

func madeTable(t *testing.T, text string) table {
	t.Helper()
	cells, gotos, clashes, settled, errno, at := tabs.Make(text)
	if errno != api.OK || at != 0 {
		t.Fatalf("K3: Make(%q) = %d, %d", text, errno, at)
	}
	return table{cells, gotos, clashes, settled}
}

// tableOf tells K3's tables, cell by cell.
func (g grammar) tableOf() table {
	ahead, states := g.least()
	_, edges := statesOf(g.made)
	goes := map[[2]int]int{}
	for _, edge := range edges {
		goes[[2]int{edge.From, edge.Symbol}] = edge.To
	}
	var out table
	for state := range states {
		var row []api.Cell
		for token := range g.made.Tokens {
			row = append(row, g.cellOf(&out, state, token, goes[[2]int{state, token}], g.reduced(ahead, state, token)))
		}
		var names []int
		for name := range g.made.Names {
			names = append(names, goes[[2]int{state, len(g.made.Tokens) + name}])
		}
		out.cells = append(out.cells, row)
		out.gotos = append(out.gotos, names)
	}
	return out
}

// reduced tells the productions ahead of which a token may stand in a state.
func (g grammar) reduced(ahead aheads, state, token int) []int {
	var out []int
	for number, prod := range g.made.Prods {
		if ahead[place{state, api.Spot{Prod: number, Dot: len(prod.Right)}}][token] {
			out = append(out, number)
		}
	}
	return out
}

// cellOf tells what K2 does with what K1 could.
func (g grammar) cellOf(out *table, state, token, edge int, prods []int) api.Cell {
	var could []api.Cell // in the order in which K2 takes them, if they clash
	if slices.Contains(prods, 0) && token == 0 {
		could = append(could, api.Cell{Do: 3})
	}
	if edge != 0 {
		could = append(could, api.Cell{Do: 1, To: edge})
	}
	for _, prod := range prods {
		if prod != 0 {
			could = append(could, api.Cell{Do: 2, To: prod})
		}
	}
	if len(could) == 0 {
		return api.Cell{}
	}
	if len(could) == 2 && could[0].Do == 1 && could[1].Do == 2 {
		if cell, settled := g.settle(token, could[0], could[1]); settled {
			out.settled++
			return cell
		}
	}
	if len(could) > 1 {
		out.clashes = append(out.clashes, api.Clash{State: state, Token: token, Shift: edge != 0, Prods: prods})
	}
	return could[0]
}

func (g grammar) settle(token int, shift, reduce api.Cell) (api.Cell, bool) {
	prec := g.made.Prods[reduce.To].Prec
	if prec == -1 || g.made.Binds[prec] == 0 || g.made.Binds[token] == 0 {
		return api.Cell{}, false
	}
	switch {
	case g.made.Binds[prec] > g.made.Binds[token]:
		return reduce, true
	case g.made.Binds[prec] < g.made.Binds[token]:
		return shift, true
	}
	return []api.Cell{reduce, shift, {Do: 4}}[g.made.Kinds[token]], true
}

func TestTables(t *testing.T) {
	settled, clashed, both, never := 0, 0, 0, 0
	eachGrammar(t, 7, func(text string, made api.Plain) {
		want := grammarOf(text, made).tableOf()
		got := madeTable(t, text)
		if fmt.Sprint(got) != fmt.Sprint(want) {
			t.Errorf("K1 to K3: Make(%q) = %v, want %v", text, got, want)
		}
		if (got.clashes == nil) != (len(want.clashes) == 0) {
			t.Errorf("K3: Make(%q) tells the clashes %v", text, got.clashes)
		}
		switch {
		case want.settled > 0 && want.clashes != nil:
			both++
		case want.settled > 0:
			settled++
		case want.clashes != nil:
			clashed++
		}
		if slices.ContainsFunc(want.cells, func(row []api.Cell) bool { return slices.Contains(row, api.Cell{Do: 4}) }) {
			never++
		}
	})
	if settled < 20 || clashed < 100 || both < 50 || never < 20 {
		t.Errorf("of the grammars only %d had settled cells alone, %d clashes alone, %d both, %d a cell that does nothing by its level", settled, clashed, both, never)
	}
}

// mostSteps is more than a row as short as these takes; a table whose cells clash may never come to an end.
const mostSteps = 2000

// works tells whether a table accepts a row (K4).
func (x table) works(made api.Plain, row []int) bool {
	pile := []int{0}
	for range mostSteps {
		next := 0
		if len(row) > 0 {
			next = row[0]
		}
		cell := x.cells[pile[len(pile)-1]][next]
		switch cell.Do {
		case 1:
			pile = append(pile, cell.To)
			row = row[1:]
		case 2:
			prod := made.Prods[cell.To]
			pile = pile[:len(pile)-len(prod.Right)]
			pile = append(pile, x.gotos[pile[len(pile)-1]][prod.Left-len(made.Tokens)])
		default:
			return cell.Do == 3
		}
	}
	return false
}

// shortRows tells all rows of tokens up to a length.
func shortRows(tokens, longest int) [][]int {
	rows := [][]int{{}}
	for from := 0; longest > 0; longest-- {
		to := len(rows)
		for _, row := range rows[from:to] {
			for token := 1; token < tokens; token++ {
				rows = append(rows, append(slices.Clone(row), token))
			}
		}
		from = to
	}
	return rows
}

// eachRow hands on short rows, each with its text, and whether it comes from the start.
func eachRow(made api.Plain, check func(row []int, text string, comes bool)) {
	longest := 4
	if len(made.Tokens) > 6 {
		longest = 2
	}
	from := derived(made, func(a, b string) (string, bool) { return a + b, len(a+b) <= longest })[len(made.Tokens)]
	for _, row := range shortRows(len(made.Tokens), longest) {
		text := ""
		for _, token := range row {
			text += made.Tokens[token]
		}
		check(row, text, from[text])
	}
}

func TestWork(t *testing.T) {
	clear, accepted := 0, 0
	eachGrammar(t, 8, func(text string, made api.Plain) {
		x := madeTable(t, text)
		told := x.clashes == nil && x.settled == 0
		if told {
			clear++
		}
		eachRow(made, func(row []int, words string, comes bool) {
			works := x.works(made, row)
			if works && !comes {
				t.Errorf("K4: the table of %q accepts %q", text, words)
			}
			if told && comes && !works {
				t.Errorf("K4: the table of %q does not accept %q", text, words)
			}
			if works && !told {
				accepted++
			}
		})
	})
	if clear < 100 || accepted < 1000 {
		t.Errorf("only %d tables had neither clashes nor settled cells; the others accepted only %d rows", clear, accepted)
	}
}
