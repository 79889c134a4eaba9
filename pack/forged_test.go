package pack_test

import (
	"fmt"
	"math/rand"
	"slices"
	"strings"
	"testing"

	"comb/api"
	"comb/comb"
	"comb/pack"
	"comb/plain"
	"comb/run"
	"comb/tabs"
)

// Packs that no text makes can be written beside pack alone. So what run and comb answer to them is held against the document here.

// forgery is tables. A production is its Left, as a place in names, and how many symbols it has.
type forgery struct {
	tokens, names []string
	prods         [][2]int
	cells         [][]api.Cell
	gotos         [][]int
}

func (f forgery) bytes(t *testing.T) string {
	t.Helper()
	made := api.Plain{Tokens: f.tokens, Names: f.names}
	for _, prod := range f.prods {
		made.Prods = append(made.Prods, api.Prod{Left: len(f.tokens) + prod[0], Right: make([]int, prod[1])})
	}
	b := pack.Forged(made, f.cells, f.gotos)
	if p, errno := pack.Load(b); p == nil || errno != api.OK {
		t.Fatalf("%v is no pack: %d", f, errno)
	}
	return b
}

// onPile is a state, and the node that stands for the symbol by which it was come to.
type onPile struct{ state, node int }

// answer is what run.Parse answers, and why.
type answer struct {
	nodes []api.Node
	errno api.Errno
	at    int
	why   string
}

// worked works a row as K4, M1 and M2 say it.
func worked(p *pack.Pack, row []int) answer {
	_, tokens, _, _ := p.Sizes()
	pile := []onPile{{0, -1}}
	var nodes []api.Node
	steps, passed := 0, 0
	for {
		top, next := pile[len(pile)-1].state, 0
		if passed < len(row) {
			if next = row[passed]; next < 1 || next > tokens-1 {
				return answer{nil, api.ErrWord, passed, "no token"}
			}
		}
		cell := p.Action(top, next)
		left, size := p.Prod(cell.To)
		switch {
		case cell.Do == 3 && passed < len(row):
			return answer{nodes, api.OK, 0, "accepted ahead of the end"}
		case cell.Do == 3:
			return answer{nodes, api.OK, 0, "accepted"}
		case cell.Do == 0 || cell.Do == 4:
			return answer{nil, api.ErrWord, passed, fmt.Sprint("did ", cell.Do)}
		case cell.Do == 1 && passed == len(row):
			return answer{nil, api.ErrWord, passed, "shift at the end"}
		case cell.Do == 2 && size > len(pile)-1:
			return answer{nil, api.ErrWord, passed, "longer than the pile"}
		case steps == 200*(len(row)+5):
			return answer{nil, api.ErrSteps, 0, "steps"}
		}
		steps++
		if cell.Do == 1 {
			nodes = append(nodes, api.Node{Symbol: next, Prod: -1, From: passed, Words: 1})
			pile = append(pile, onPile{cell.To, len(nodes) - 1})
			passed++
			continue
		}
		node := api.Node{Symbol: left, Prod: cell.To, From: passed}
		for i, taken := range pile[len(pile)-size:] {
			if i == 0 {
				node.From = nodes[taken.node].From
			}
			node.Kids = append(node.Kids, taken.node)
			node.Words += nodes[taken.node].Words
		}
		pile = pile[:len(pile)-size]
		nodes = append(nodes, node)
		pile = append(pile, onPile{p.Goto(pile[len(pile)-1].state, left-tokens), len(nodes) - 1})
	}
}

// checkWorked holds what run.Parse answers against M1 and M2, and tells why it answers so.
func checkWorked(t *testing.T, b string, row []int) string {
	t.Helper()
	p, errno := pack.Load(b)
	want := answer{errno: errno}
	if p != nil {
		want = worked(p, row)
	}
	nodes, errno, at := run.Parse(b, row)
	if fmt.Sprint(nodes) != fmt.Sprint(want.nodes) || errno != want.errno || at != want.at {
		t.Fatalf("M1, M2: Parse(%q, %v) = %v, %d, %d, want %v", b, row, nodes, errno, at, want)
	}
	return want.why
}

// textOf tells a node's text (Z2), and with a blank ahead of each, if it is a helper's, those of its Kids.
func textOf(p *pack.Pack, nodes []api.Node, i int) string {
	if nodes[i].Prod == -1 {
		return " " + p.Token(nodes[i].Symbol)
	}
	kids := ""
	for _, kid := range nodes[i].Kids {
		kids += textOf(p, nodes, kid)
	}
	if isHelper(p, nodes[i]) {
		return kids
	}
	_, tokens, _, _ := p.Sizes()
	return " (" + p.Name(nodes[i].Symbol-tokens) + kids + ")"
}

func isHelper(p *pack.Pack, node api.Node) bool {
	_, tokens, _, _ := p.Sizes()
	return node.Prod != -1 && strings.Contains(p.Name(node.Symbol-tokens), "'")
}

// checkRead holds what Read answers to words, one blank between each two, against Z2.
func checkRead(t *testing.T, b string, words []string) {
	t.Helper()
	p, _ := pack.Load(b)
	_, tokens, _, _ := p.Sizes()
	text := strings.Join(words, " ")
	want := comb.Result{}
	var row, places []int
	at := 0
	for _, word := range words {
		token := 1
		for token < tokens && p.Token(token) != word {
			token++
		}
		if token == tokens && want.Err == api.OK {
			want = comb.Result{Err: api.ErrName, At: at}
		}
		row, places = append(row, token), append(places, at)
		at += len(word) + 1
	}
	if want.Err == api.OK {
		nodes, errno, at := run.Parse(b, row)
		want.Err = errno
		if errno == api.ErrWord {
			want.At = append(places, len(text))[at]
		}
		for i, node := range nodes {
			if !isHelper(p, node) {
				want.Tree = textOf(p, nodes, i)[1:] // the last one stays
			}
		}
	}
	if tree, errno, at := comb.Read(b, text); tree != want.Tree || errno != want.Err || at != want.At {
		t.Errorf("Z2: Read(%q, %q) = %q, %d, %d, want %v", b, text, tree, errno, at, want)
	}
}

func randomForgery(r *rand.Rand) forgery {
	f := forgery{tokens: []string{"$"}, names: []string{"$start"}}
	for range r.Intn(4) {
		f.tokens = append(f.tokens, []string{"A", "B", "C", "A", "$", "x'1", "word"}[r.Intn(7)])
	}
	for range r.Intn(4) {
		f.names = append(f.names, []string{"a", "b", "a'1", "b'12", "'", ""}[r.Intn(6)])
	}
	for range 1 + r.Intn(5) {
		f.prods = append(f.prods, [2]int{r.Intn(len(f.names)), r.Intn(1 + r.Intn(4))})
	}
	states := 1 + r.Intn(5)
	for range states {
		var cells []api.Cell
		for range f.tokens {
			cell := api.Cell{Do: []int{0, 1, 1, 1, 1, 2, 2, 3, 4}[r.Intn(9)]}
			switch size := []int{1, states, len(f.prods), 1, 1}[cell.Do]; {
			case size > 1:
				cell.To = 1 + r.Intn(size-1)
			case cell.Do < 3:
				cell.Do = 0
			}
			cells = append(cells, cell)
		}
		var gotos []int
		for range f.names {
			gotos = append(gotos, r.Intn(states))
		}
		f.cells, f.gotos = append(f.cells, cells), append(f.gotos, gotos)
	}
	return f
}

func randomRow(r *rand.Rand, tokens int) []int {
	row := make([]int, r.Intn(6))
	for i := range row {
		row[i] = 1 + r.Intn(max(1, tokens-1))
		if r.Intn(20) == 0 {
			row[i] = r.Intn(tokens+4) - 2
		}
	}
	return row
}

func TestForged(t *testing.T) {
	r := rand.New(rand.NewSource(3))
	counts := map[string]int{"accepted": 0, "accepted ahead of the end": 0, "no token": 0, "did 0": 0, "did 4": 0, "shift at the end": 0, "longer than the pile": 0, "steps": 0}
	for range 10000 {
		f := randomForgery(r)
		b := f.bytes(t)
		counts[checkWorked(t, b, randomRow(r, len(f.tokens)))]++
		words := make([]string, r.Intn(5))
		for i := range words {
			words[i] = f.tokens[r.Intn(len(f.tokens))]
		}
		checkRead(t, b, words)
	}
	for why, count := range counts {
		if count < 100 {
			t.Errorf("only %d rows were answered by: %s", count, why)
		}
	}
}

// TestNearlyWorked lets packs work in which some bytes were turned into others, and the sum put right.
func TestNearlyWorked(t *testing.T) {
	r := rand.New(rand.NewSource(4))
	worked := 0
	for range 5000 {
		text := []string{"s=A s|;", "%none A;e=e A e|B;", "s=a A|b B|c;a=Z;b=Z;c=Z;", "l = C (X (D X)*)? E;", "s = A a b; a = b B b; b = ;"}[r.Intn(5)]
		whole, _, _ := pack.Make(text)
		b := []byte(whole)
		for range r.Intn(4) {
			b[r.Intn(len(b))] = byte(r.Intn(1 + r.Intn(256)))
		}
		nearly := pack.Sealed(b)
		if checkWorked(t, nearly, randomRow(r, 4)) != "" {
			worked++
			checkRead(t, nearly, []string{"A", "B", "C"}[:r.Intn(4)])
		}
	}
	if worked < 1000 {
		t.Errorf("only %d of the packs worked", worked)
	}
}

func TestShiftAtTheEnd(t *testing.T) {
	shift, accept := api.Cell{Do: 1, To: 1}, api.Cell{Do: 3}
	b := forgery{
		tokens: []string{"$", "A"}, names: []string{"$start"}, prods: [][2]int{{0, 1}},
		cells: [][]api.Cell{{shift, shift}, {shift, accept}}, gotos: [][]int{{0}, {0}},
	}.bytes(t)
	for row, want := range []answer{{nil, api.ErrWord, 0, ""}, {nil, api.ErrWord, 1, ""}, {[]api.Node{{Symbol: 1, Prod: -1, Words: 1}}, api.OK, 0, ""}} {
		nodes, errno, at := run.Parse(b, slices.Repeat([]int{1}, row))
		if fmt.Sprint(nodes) != fmt.Sprint(want.nodes) || errno != want.errno || at != want.at {
			t.Errorf("M1: %d words: %v, %d, %d, want %v", row, nodes, errno, at, want)
		}
	}
}

func TestLongerThanThePile(t *testing.T) {
	for size, errnos := range [][]api.Errno{
		{api.OK, api.OK, api.OK, api.OK},
		{api.ErrWord, api.OK, api.OK, api.OK},
		{api.ErrWord, api.ErrWord, api.OK, api.OK},
		{api.ErrWord, api.ErrWord, api.ErrWord, api.OK},
		{api.ErrWord, api.ErrWord, api.ErrWord, api.ErrWord},
	} {
		// All words are shifted, and at the end one production is reduced. Then it is accepted.
		shift, reduce, accept := api.Cell{Do: 1, To: 1}, api.Cell{Do: 2, To: 1}, api.Cell{Do: 3}
		b := forgery{
			tokens: []string{"$", "A"}, names: []string{"$start", "a"}, prods: [][2]int{{0, 1}, {1, size}},
			cells: [][]api.Cell{{reduce, shift}, {reduce, shift}, {accept, shift}}, gotos: [][]int{{0, 2}, {0, 2}, {0, 0}},
		}.bytes(t)
		for words, errno := range errnos {
			nodes, got, at := run.Parse(b, slices.Repeat([]int{1}, words))
			if got != errno || got == api.OK && len(nodes) != words+1 || got == api.ErrWord && (at != words || nodes != nil) {
				t.Errorf("M1: %d words, a production of %d: %v, %d, %d, want %d", words, size, nodes, got, at, errno)
			}
		}
	}
}

// TestBehindTheLastStep holds what cannot be done just when there are no more steps against M1.
func TestBehindTheLastStep(t *testing.T) {
	for steps, errno := range map[int]api.Errno{999: api.ErrWord, 1000: api.ErrWord, 1001: api.ErrSteps} {
		text := "a =" + strings.Repeat(" b", steps/40) + strings.Repeat(" c", steps%40) + " D; b =" + strings.Repeat(" c", 39) + "; c = ;"
		made, _, _ := plain.Make(text)
		for _, cell := range []api.Cell{{Do: 0}, {Do: 1, To: 1}, {Do: 2, To: 1}, {Do: 4}} {
			cells, gotos, _, _, _, _ := tabs.Make(text)
			state := slices.IndexFunc(cells, func(row []api.Cell) bool { return row[1].Do == 1 })
			cells[state][0] = cell
			made.Prods[1].Right = make([]int, 1000) // longer than any pile here
			if nodes, got, at := run.Parse(pack.Forged(made, cells, gotos), nil); nodes != nil || got != errno || at != 0 {
				t.Errorf("M1: %v behind %d steps: %d, %d, want %d", cell, steps, got, at, errno)
			}
		}
	}
}

// TestForgedTrees holds trees of packs that no text makes against Z2.
func TestForgedTrees(t *testing.T) {
	const first, second, both = 1, 2, 3
	// A state behind each of two tokens, and in one of them, or in both, one production of all that stands there; then it is accepted.
	forged := func(tokens [3]string, name string, accepts int) string {
		reduce := func(token int) api.Cell {
			if accepts&token == 0 {
				return api.Cell{}
			}
			return api.Cell{Do: 2, To: 1}
		}
		return forgery{
			tokens: tokens[:], names: []string{"$start", name}, prods: [][2]int{{0, 1}, {1, 1}},
			cells: [][]api.Cell{{{}, {Do: 1, To: 1}, {Do: 1, To: 2}}, {reduce(first), {}, {}}, {reduce(second), {}, {}}, {{Do: 3}, {}, {}}},
			gotos: [][]int{{0, 3}, {0, 0}, {0, 0}, {0, 0}},
		}.bytes(t)
	}
	for _, c := range []struct {
		what, b, words, want string
		errno                api.Errno
		at                   int
	}{
		{"two Tokens", forged([3]string{"$", "A", "B"}, "a", both), "B", "(a B)", api.OK, 0},
		{"two Tokens of one name", forged([3]string{"$", "A", "A"}, "a", first), "A", "(a A)", api.OK, 0},
		{"two Tokens of one name, of which the second one can stand there", forged([3]string{"$", "A", "A"}, "a", second), "A ", "", api.ErrWord, 2},
		{"a Token called like the end", forged([3]string{"$", "$", "A"}, "a", both), "$", "(a $)", api.OK, 0},
		{"a Token called nothing", forged([3]string{"$", "", "A"}, "a", both), "  ", "", api.ErrWord, 2},
		{"a Token with a blank", forged([3]string{"$", "A B", "A"}, "a", both), "A B", "", api.ErrName, 2},
		{"a Token called like a helper", forged([3]string{"$", "a'1", "A"}, "a", both), "a'1", "(a a'1)", api.OK, 0},
		{"a name of any bytes", forged([3]string{"$", "\xff", "A"}, "(\x00 ", both), "\xff", "((\x00  \xff)", api.OK, 0},
		{"a helper around all", forged([3]string{"$", "A", "B"}, "a'1", both), "A", "A", api.OK, 0},
		{"nothing", forgery{[]string{"$"}, []string{"$start"}, [][2]int{{0, 1}}, [][]api.Cell{{{Do: 3}}}, [][]int{{0}}}.bytes(t), "", "", api.OK, 0},
		{"a helper of nothing", forgery{[]string{"$"}, []string{"$start", "'"}, [][2]int{{0, 1}, {1, 0}}, [][]api.Cell{{{Do: 2, To: 1}}, {{Do: 3}}}, [][]int{{0, 1}, {0, 0}}}.bytes(t), "", "", api.OK, 0},
	} {
		if tree, errno, at := comb.Read(c.b, c.words); tree != c.want || errno != c.errno || at != c.at {
			t.Errorf("Z2: %s: %q, %d, %d, want %q, %d, %d", c.what, tree, errno, at, c.want, c.errno, c.at)
		}
		results, errno := comb.ReadAll(c.b, []string{c.words, c.words}, 2)
		if want := (comb.Result{Tree: c.want, Err: c.errno, At: c.at}); errno != api.OK || !slices.Equal(results, []comb.Result{want, want}) {
			t.Errorf("Z3: %s: %v, %d, want %v twice", c.what, results, errno, want)
		}
	}
}
