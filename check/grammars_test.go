// Package check holds what the packages answer against the document, worked out in the plainest way, on grammars with edges and on many small ones.
package check

import (
	"math/rand"
	"strings"
	"testing"

	"comb/api"
	"comb/plain"
)

// edgeGrammars are grammars that have what the document is particular about.
var edgeGrammars = []string{
	"a = ;",
	"s = A s | ;",
	"s = s A | ;",
	"e = e A e | B;",
	"e = e A t | t; t = t B f | f; f = C e D | E;",
	"s = l C r | r; l = A r | B; r = l;",
	"s = A a D | B b D | A b E | B a E; a = C; b = C;",
	"s = a b c D | b c b; a = A | ; b = B | ; c = C | ;",
	"a = b | A; b = c | ; c = a | B;",
	"a = b c A; b = c | ; c = b b | ;",
	"a = a a | b a b | ; b = a b | B;",
	"s = a A | b B | c; a = Z; b = Z; c = Z;",
	"s = Z | a A | a B; a = Z;",
	"s = a b c; a = ; b = ; c = ;",
	"l = C (X (D X)*)? E;",
	"a = ((A | B)* C?)+ D | (b)? b*; b = (B | )+;",
	"s = A s B | A C | b; b = b D | s?;",
	"a = b D | C b E | C F; b = c; c = F d | ; d = c?;",
	// Numbers of two digits: the spots 1.11 and 11.1, and those of the states 1.1 12.3 and 1.11 2.3, differ only by where one number ends.
	"s = A A A A A A A A A A A A | B | C | D | E | F | G | H | I | J | K;",
	"a = A A A A A A A A a Y Z | a Y Z | B | C | D | E | F | G | H | I | b; b = P Q A R | P Q a;",
	"%left A; %left B; e = Z | e A e | e B e;",
	"%right A; %none B C; %left M; e = e A e | e B e | e C e | A e %prec M | e e %prec B | Z;",
	"%none A; s = a A | b A | A A; a = A; b = A %prec A;",
	"%left B; s = s B s | C?;",
}

// randomGrammar makes a text of few levels and rules, names of one letter and tokens of one letter.
func randomGrammar(r *rand.Rand) string {
	names := []string{"a", "b", "c"}[:1+r.Intn(3)]
	operators := r.Intn(3) == 0
	tokens := []string{"A", "B", "C"}
	r.Shuffle(len(tokens), func(i, k int) { tokens[i], tokens[k] = tokens[k], tokens[i] })
	tokens = tokens[:r.Intn(4)]
	out := randomLevels(r, tokens)
	for n, name := range names {
		alts := randomAlts(r, names, 2)
		if operators {
			alts = randomOperators(r, name, names[n:])
		}
		for i := range alts {
			if len(tokens) > 0 && r.Intn(6) == 0 {
				alts[i] += " %prec " + tokens[r.Intn(len(tokens))]
			}
		}
		out += name + " =" + strings.Join(alts, " |") + ";\n"
	}
	return out
}

// randomLevels lays tokens into levels, in their order.
func randomLevels(r *rand.Rand, tokens []string) string {
	out := ""
	for len(tokens) > 0 {
		count := 1 + r.Intn(len(tokens))
		out += []string{"%left ", "%right ", "%none "}[r.Intn(3)] + strings.Join(tokens[:count], " ") + ";\n"
		tokens = tokens[count:]
	}
	return out
}

func randomAlts(r *rand.Rand, names []string, depth int) []string {
	alts := make([]string, 1+r.Intn(3))
	for i := range alts {
		for range r.Intn(3) {
			mark := []string{"", "", "", "*", "+", "?"}[r.Intn(6)]
			switch kind := r.Intn(5); {
			case kind < 2:
				alts[i] += " " + []string{"A", "B", "C"}[r.Intn(3)] + mark
			case kind < 4 || depth == 0:
				alts[i] += " " + names[r.Intn(len(names))] + mark
			default:
				alts[i] += " (" + strings.Join(randomAlts(r, names, depth-1), " |") + ")" + mark
			}
		}
	}
	return alts
}

// randomOperators makes alts of a name that stands between, ahead of or behind tokens, and one that ends it: the next name, or a token.
func randomOperators(r *rand.Rand, name string, names []string) []string {
	alts := []string{" Z"}
	if len(names) > 1 {
		alts[0] = " " + names[1]
	}
	for range 1 + r.Intn(3) {
		token := []string{" A", " B", " C"}[r.Intn(3)]
		self := " " + name
		alts = append(alts, []string{self + token + self, token + self, self + token}[r.Intn(3)])
	}
	return alts
}

// eachGrammar hands grammars that have no fault, and what is made of them, on to check.
func eachGrammar(t *testing.T, seed int64, check func(text string, made api.Plain)) {
	t.Helper()
	for _, text := range edgeGrammars {
		made, errno, at := plain.Make(text)
		if errno != api.OK {
			t.Fatalf("Make(%q) = %d, %d", text, errno, at)
		}
		check(text, made)
	}
	r := rand.New(rand.NewSource(seed))
	count := 0
	for range 1500 {
		text := randomGrammar(r)
		if made, errno, _ := plain.Make(text); errno == api.OK {
			count++
			check(text, made)
		}
	}
	if count < 200 {
		t.Errorf("only %d of the grammars had no fault", count)
	}
}
