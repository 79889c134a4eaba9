// Package check holds what the packages answer against the document, worked out in the plainest way, on grammars with edges and on many small ones.
package check

import (
	"math/rand"
	"strings"
	"testing"

	"comb/api"
	"comb/plain"
)

// edgeGrammars are grammars that have what the document is particular about.
var edgeGrammars = []string{
	"a = ;",
	"s = A s | ;",
	"s = s A | ;",
	"e = e A e | B;",
	"e = e A t | t; t = t B f | f; f = C e D | E;",
	"s = l C r | r; l = A r | B; r = l;",
	"s = A a D | B b D | A b E | B a E; a = C; b = C;",
	"s = a b c D | b c b; a = A | ; b = B | ; c = C | ;",
	"a = b | A; b = c | ; c = a | B;",
	"a = b c A; b = c | ; c = b b | ;",
	"a = a a | b a b | ; b = a b | B;",
	"s = a A | b B | c; a = Z; b = Z; c = Z;",
	"s = a b c; a = ; b = ; c = ;",
	"l = C (X (D X)*)? E;",
	"a = ((A | B)* C?)+ D | (b)? b*; b = (B | )+;",
	"s = A s B | A C | b; b = b D | s?;",
	"a = b D | C b E | C F; b = c; c = F d | ; d = c?;",
	// Numbers of two digits: the spots 1.11 and 11.1, and those of the states 1.1 12.3 and 1.11 2.3, differ only by where one number ends.
	"s = A A A A A A A A A A A A | B | C | D | E | F | G | H | I | J | K;",
	"a = A A A A A A A A a Y Z | a Y Z | B | C | D | E | F | G | H | I | b; b = P Q A R | P Q a;",
}

// randomGrammar makes a text of few rules, names of one letter and tokens of one letter.
func randomGrammar(r *rand.Rand) string {
	names := []string{"a", "b", "c"}[:1+r.Intn(3)]
	var out strings.Builder
	for _, name := range names {
		out.WriteString(name + " =" + randomAlts(r, names, 2) + ";\n")
	}
	return out.String()
}

func randomAlts(r *rand.Rand, names []string, depth int) string {
	out := ""
	for i := range 1 + r.Intn(3) {
		if i > 0 {
			out += " |"
		}
		for range r.Intn(3) {
			mark := []string{"", "", "", "*", "+", "?"}[r.Intn(6)]
			switch kind := r.Intn(5); {
			case kind < 2:
				out += " " + []string{"A", "B", "C"}[r.Intn(3)] + mark
			case kind < 4 || depth == 0:
				out += " " + names[r.Intn(len(names))] + mark
			default:
				out += " (" + randomAlts(r, names, depth-1) + ")" + mark
			}
		}
	}
	return out
}

// eachGrammar hands grammars that have no fault, and what is made of them, on to check.
func eachGrammar(t *testing.T, seed int64, check func(text string, made api.Plain)) {
	t.Helper()
	for _, text := range edgeGrammars {
		made, errno, at := plain.Make(text)
		if errno != api.OK {
			t.Fatalf("Make(%q) = %d, %d", text, errno, at)
		}
		check(text, made)
	}
	r := rand.New(rand.NewSource(seed))
	count := 0
	for range 1500 {
		text := randomGrammar(r)
		if made, errno, _ := plain.Make(text); errno == api.OK {
			count++
			check(text, made)
		}
	}
	if count < 200 {
		t.Errorf("only %d of the grammars had no fault", count)
	}
}
