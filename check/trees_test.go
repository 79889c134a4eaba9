package check

import (
	"fmt"
	"maps"
	"math/rand"
	"regexp"
	"slices"
	"strings"
	"testing"

	"comb/api"
	"comb/comb"
	"comb/fold"
	"comb/gram"
	"comb/pack"
	"comb/plain"
	"comb/run"
)

// moreGrammars have levels, productions without symbols and helpers in helpers, and do not clash.
var moreGrammars = []string{
	"s = A a b; a = b B b; b = ;",
	"a = b c*; b = B?; c = C | D a E;",
	"s = (A b (C | D b)*)+ E; b = B b | ;",
	"s = ((A | B+)* C)* D?;",
	"%left A; %right B; %left N; e = e A e | e B e | A e %prec N | C e D | Z;",
	"%none A B; e = e A e | e B e | Z+ C?;",
	"%left A; %left B; a = b a | A; b = %prec B;",
	"s = A (B | C s)? | ;",
	"s = x x D | x; x = y y y y y y; y = z z z z z z; z = w w w w w w; w = v v v v v v; v = ;",
}

// eachPacked hands grammars of which no cell clashes on to check, with their packs, and whether a cell was settled.
func eachPacked(t *testing.T, seed int64, check func(text string, made api.Plain, b string, settled bool)) {
	t.Helper()
	one := func(text string, made api.Plain) {
		if b, errno, _ := pack.Make(text); errno == api.OK {
			check(text, made, b, madeTable(t, text).settled > 0)
		}
	}
	for _, text := range moreGrammars {
		made, errno, at := plain.Make(text)
		if errno != api.OK {
			t.Fatalf("Make(%q) = %d, %d", text, errno, at)
		}
		one(text, made)
	}
	eachGrammar(t, seed, one)
}

// beginnings tells with what rows that come from the start can begin, as far as these are no longer than longest. (All that a grammar has comes to an end.)
func beginnings(made api.Plain, longest int) rows {
	join := func(a, b string) (string, bool) { return a + b, len(a+b) <= longest }
	whole := derived(made, join)
	found := make([]rows, len(whole))
	for symbol := range found {
		found[symbol] = rows{"": true}
		if symbol < len(made.Tokens) {
			found[symbol][made.Tokens[symbol]] = true
		}
	}
	for grew := true; grew; {
		grew = false
		for _, prod := range made.Prods {
			for i, symbol := range prod.Right {
				size := len(found[prod.Left])
				for ahead := range ofRight(prod.Right[:i], whole, join) {
					for begin := range found[symbol] {
						if row, keep := join(ahead, begin); keep {
							found[prod.Left][row] = true
						}
					}
				}
				grew = grew || len(found[prod.Left]) > size
			}
		}
	}
	return found[len(made.Tokens)]
}

// tree is nodes of a row, by the productions of a grammar.
type tree struct {
	made  api.Plain
	row   []int
	nodes []api.Node
}

// isHelper tells whether a node is a helper's (B2).
func (x tree) isHelper(i int) bool {
	node := x.nodes[i]
	return node.Prod != -1 && strings.Contains(x.made.Names[node.Symbol-len(x.made.Tokens)], "'")
}

// behindKids goes through a node and all below it, Kids ahead of what they are Kids of: as the steps go.
func (x tree) behindKids(i int, check func(i int)) {
	for _, kid := range x.nodes[i].Kids {
		x.behindKids(kid, check)
	}
	check(i)
}

// fault tells what is wrong with nodes that run.Parse answered, by M2 and M3.
func (x tree) fault() string {
	last := len(x.nodes) - 1
	if last < 0 || x.nodes[last].Symbol != len(x.made.Tokens)+1 || x.nodes[last].From != 0 || x.nodes[last].Words != len(x.row) {
		return "the last node is not the first rule's, with all words"
	}
	parents := make([]int, len(x.nodes))
	for _, node := range x.nodes {
		for _, kid := range node.Kids {
			parents[kid]++
		}
	}
	for i, count := range parents {
		if i < last && count != 1 || i == last && count != 0 {
			return fmt.Sprint("node ", i, " is a Kid of ", count)
		}
	}
	passed, next, fault := 0, 0, ""
	x.behindKids(last, func(i int) {
		if i != next {
			fault += fmt.Sprint("node ", i, " is the step ", next, "; ")
		}
		next++
		fault += x.faultOf(i, passed)
		if x.nodes[i].Prod == -1 {
			passed++
		}
	})
	return fault
}

// faultOf tells what is wrong with a node that is made when some words were passed.
func (x tree) faultOf(i, passed int) string {
	node := x.nodes[i]
	if node.Prod == -1 {
		if passed >= len(x.row) || node.Symbol != x.row[passed] || node.From != passed || node.Words != 1 || node.Kids != nil {
			return fmt.Sprint("the token ", i, " is ", node)
		}
		return ""
	}
	from, words := passed, 0
	var symbols []int
	for k, kid := range node.Kids {
		if k == 0 {
			from = x.nodes[kid].From
		}
		words += x.nodes[kid].Words
		symbols = append(symbols, x.nodes[kid].Symbol)
	}
	prod := x.made.Prods[node.Prod]
	if node.Symbol != prod.Left || !slices.Equal(symbols, prod.Right) || node.From != from || node.Words != words {
		return fmt.Sprint("the name ", i, " is ", node)
	}
	return ""
}

// folded tells the nodes that V1 leaves.
func (x tree) folded() []api.Node {
	var out []api.Node
	numbers := map[int]int{}
	for i, node := range x.nodes {
		if !x.isHelper(i) {
			numbers[i] = len(out)
			var kids []int
			for _, kid := range node.Kids {
				for _, below := range x.inPlace(kid) {
					kids = append(kids, numbers[below])
				}
			}
			node.Kids = kids
			out = append(out, node)
		}
	}
	return out
}

// inPlace tells what stands in place of a Kid: itself, or what stands in place of a helper's own.
func (x tree) inPlace(i int) []int {
	if !x.isHelper(i) {
		return []int{i}
	}
	var out []int
	for _, kid := range x.nodes[i].Kids {
		out = append(out, x.inPlace(kid)...)
	}
	return out
}

// text tells the tree's text (Z2) of a node of folded ones.
func (x tree) text(i int) string {
	node := x.nodes[i]
	if node.Prod == -1 {
		return x.made.Tokens[node.Symbol]
	}
	out := "(" + x.made.Names[node.Symbol-len(x.made.Tokens)]
	for _, kid := range node.Kids {
		out += " " + x.text(kid)
	}
	return out + ")"
}

// TestRun holds what rows bring against M1 to M3.
func TestRun(t *testing.T) {
	told := map[string]int{}
	eachPacked(t, 10, func(text string, made api.Plain, b string, settled bool) {
		begins := beginnings(made, 4)
		eachRow(made, func(row []int, words string, comes bool) {
			nodes, errno, at := run.Parse(b, row)
			told[fmt.Sprint(settled, errno)]++
			if errno != api.OK && (nodes != nil || at < 0 || at > len(row)) || errno != api.ErrWord && at != 0 {
				t.Errorf("M1, G2: %q of %q: %v, %d, %d", words, text, nodes, errno, at)
			}
			switch errno {
			case api.OK:
				if fault := (tree{made, row, nodes}).fault(); fault != "" || !comes {
					t.Errorf("M2, M3: %q of %q, which comes: %v, brings %v: %s", words, text, comes, nodes, fault)
				}
			case api.ErrWord:
				if !settled && (comes || !begins[words[:at]] || at < len(row) && begins[words[:at+1]]) {
					t.Errorf("M3: %q of %q, which comes: %v, brings ErrWord, %d", words, text, comes, at)
				}
			case api.ErrSteps:
			default:
				t.Errorf("M1: %q of %q: %d", words, text, errno)
			}
		})
	})
	for _, what := range []string{"false 0", "true 0", "false 11", "true 11", "false 12", "true 12"} {
		if told[what] < 1 || !strings.HasSuffix(what, "12") && told[what] < 500 {
			t.Errorf("only %d rows were answered by %s", told[what], what)
		}
	}
}

// expression tells a regular expression for what alts mean (B6), each NAME taken for itself; all NAMEs and TOKENs have one letter.
func expression(alts []api.Alt) string {
	var parts []string
	for _, alt := range alts {
		part := ""
		for _, item := range alt.Items {
			once := item.Name
			if item.Kind == 2 {
				once = expression(item.Alts)
			}
			mark := strings.Trim(string(rune(item.Mark)), "\x00")
			part += "(?:(?:" + once + ")" + mark + ")"
		}
		parts = append(parts, part)
	}
	return strings.Join(parts, "|")
}

// altFault tells whether the Kids of a rule's node are not what V2 says.
func (x tree) altFault(rules []api.Rule, i int) string {
	node := x.nodes[i]
	if node.Prod == -1 {
		return ""
	}
	kids := ""
	for _, kid := range node.Kids {
		kids += slices.Concat(x.made.Tokens, x.made.Names)[x.nodes[kid].Symbol]
	}
	name := x.made.Names[node.Symbol-len(x.made.Tokens)]
	rule := slices.IndexFunc(rules, func(rule api.Rule) bool { return rule.Name == name })
	first := slices.IndexFunc(x.made.Prods, func(prod api.Prod) bool { return prod.Left == node.Symbol })
	alt := rules[rule].Alts[node.Prod-first]
	if want := "^(?:" + expression([]api.Alt{alt}) + ")$"; !regexp.MustCompile(want).MatchString(kids) {
		return fmt.Sprintf("the Kids of %d are %q, not %s", i, kids, want)
	}
	return ""
}

// checkFold holds what fold.Parse answers against V1 and V2.
func checkFold(t *testing.T, text string, made api.Plain, b string, row []int) {
	t.Helper()
	bare, wantErrno, wantAt := run.Parse(b, row)
	want := tree{made, row, bare}.folded()
	nodes, errno, at := fold.Parse(text, row)
	if fmt.Sprint(nodes) != fmt.Sprint(want) || errno != wantErrno || at != wantAt || errno != api.OK && nodes != nil {
		t.Errorf("V1: Parse(%q, %v) = %v, %d, %d, want %v, %d, %d", text, row, nodes, errno, at, want, wantErrno, wantAt)
		return
	}
	grammar, _, _ := gram.Parse(text)
	for i := range nodes {
		if fault := (tree{made, row, nodes}).altFault(grammar.Rules, i); fault != "" {
			t.Errorf("V2: Parse(%q, %v) = %v: %s", text, row, nodes, fault)
		}
	}
}

func TestFolded(t *testing.T) {
	folded := 0
	eachPacked(t, 11, func(text string, made api.Plain, b string, settled bool) {
		good, bad := 0, 0
		eachRow(made, func(row []int, words string, comes bool) {
			switch {
			case comes && good < 20:
				good++
			case !comes && bad < 2:
				bad++
			default:
				return
			}
			checkFold(t, text, made, b, row)
		})
		if strings.ContainsAny(text, "(*+?") {
			folded += good
		}
	})
	if folded < 200 {
		t.Errorf("only %d trees had helpers to be folded", folded)
	}
}

// spaced lays words behind one another with blanks of all kinds, and tells the place of each, and the text's length.
func spaced(r *rand.Rand, words []string) (string, []int) {
	blanks := func(least int) string {
		out := ""
		for range least + r.Intn(3) {
			out += string(" \t\n"[r.Intn(3)])
		}
		return out
	}
	text := blanks(0)
	var places []int
	for i, word := range words {
		if i > 0 {
			text += blanks(1)
		}
		places = append(places, len(text))
		text += word
	}
	text += blanks(0)
	return text, append(places, len(text))
}

// checkRead holds what Read answers to words against Z2 and Z4.
func checkRead(t *testing.T, r *rand.Rand, x tree, b string, settled, means bool) comb.Result {
	t.Helper()
	var words []string
	for _, token := range x.row {
		words = append(words, x.made.Tokens[token])
	}
	text, places := spaced(r, words)
	nodes, errno, at := run.Parse(b, x.row)
	want := comb.Result{Err: errno}
	switch errno {
	case api.OK:
		x.nodes = nodes
		x.nodes = x.folded()
		want.Tree = x.text(len(x.nodes) - 1)
	case api.ErrWord:
		want.At = places[at]
	}
	read, errno, at := comb.Read(b, text)
	got := comb.Result{Tree: read, Err: errno, At: at}
	if got != want {
		t.Errorf("Z2: Read(.., %q) = %v, want %v", text, got, want)
	}
	if read != "" && !means || !settled && means && read == "" && errno != api.ErrSteps {
		t.Errorf("Z4: Read(.., %q), which is meant: %v, = %v", text, means, got)
	}
	return got
}

// TestComb holds what is read by what is generated against what the rules mean.
func TestComb(t *testing.T) {
	r := rand.New(rand.NewSource(13))
	trees := 0
	eachPacked(t, 12, func(text string, made api.Plain, b string, settled bool) {
		if again, clashes, errno, at := comb.Generate(text); again != b || clashes != nil || errno != api.OK || at != 0 {
			t.Errorf("Z1: Generate(%q) = %q, %v, %d, %d, want %q", text, again, clashes, errno, at, b)
		}
		grammar, _, _ := gram.Parse(text)
		means := meaning{longest: 4}.ofFirst(grammar.Rules)
		eachRow(made, func(row []int, words string, _ bool) {
			if checkRead(t, r, tree{made: made, row: row}, b, settled, means[words]).Tree != "" {
				trees++
			}
		})
	})
	if trees < 1000 {
		t.Errorf("only %d trees were read", trees)
	}
}

// TestClashes holds what Generate answers to grammars that clash against Z1.
func TestClashes(t *testing.T) {
	clashed := 0
	eachGrammar(t, 13, func(text string, made api.Plain) {
		want := madeTable(t, text).clashes
		if want == nil {
			return
		}
		clashed++
		b, clashes, errno, at := comb.Generate(text)
		if b != "" || fmt.Sprint(clashes) != fmt.Sprint(want) || errno != api.ErrClash || at != 0 {
			t.Errorf("Z1: Generate(%q) = %q, %v, %d, %d, want %v", text, b, clashes, errno, at, want)
		}
	})
	if clashed < 100 {
		t.Errorf("only %d of the grammars clashed", clashed)
	}
}

// TestAll holds what several goroutines read against what is read by one after the other (Z3).
func TestAll(t *testing.T) {
	r := rand.New(rand.NewSource(14))
	for _, text := range slices.Concat(edgeGrammars, moreGrammars) {
		made, _, _ := plain.Make(text)
		b, _, errno, _ := comb.Generate(text)
		if errno != api.OK {
			continue
		}
		var texts []string
		var want []comb.Result
		eachRow(made, func(row []int, _ string, _ bool) {
			words := []string{}
			for _, token := range row {
				words = append(words, made.Tokens[token])
			}
			if r.Intn(10) == 0 {
				words = append(words, "none")
			}
			one, _ := spaced(r, words)
			read, errno, at := comb.Read(b, one)
			texts, want = append(texts, one), append(want, comb.Result{Tree: read, Err: errno, At: at})
		})
		for _, workers := range []int{1, 2, 3, 8, 16} {
			if got, errno := comb.ReadAll(b, texts, workers); errno != api.OK || !slices.Equal(got, want) {
				t.Errorf("Z3: %d texts of %q by %d workers: %v, %d, want %v", len(texts), text, workers, got, errno, want)
			}
		}
	}
}

// TestBeginnings holds the beginnings that the tests here go by against rows that were worked out by hand.
func TestBeginnings(t *testing.T) {
	made, _, _ := plain.Make("s = A s B | C?;")
	want := rows{"": true, "A": true, "C": true, "AA": true, "AB": true, "AC": true}
	if got := beginnings(made, 2); !maps.Equal(got, want) {
		t.Errorf("rows begin with %v, want %v", got, want)
	}
}
