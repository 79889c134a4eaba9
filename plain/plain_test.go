package plain_test

import (
	"fmt"
	"math/rand"
	"reflect"
	"slices"
	"strings"
	"testing"

	"comb/api"
	"comb/gram"
	"comb/plain"
)

// refusal is a text, and what is answered to it.
type refusal struct {
	text  string
	errno api.Errno
	at    int
}

func checkMake(t *testing.T, promise string, cases ...refusal) {
	t.Helper()
	for _, c := range cases {
		made, errno, at := plain.Make(c.text)
		if errno != c.errno || at != c.at {
			t.Errorf("%s: Make(%.60q) = %d, %d, want %d, %d", promise, c.text, errno, at, c.errno, c.at)
		}
		if errno != api.OK && !reflect.DeepEqual(made, api.Plain{}) {
			t.Errorf("G2: Make(%.60q) tells %v beside %d", c.text, made, errno)
		}
		empty, first, errno, at := plain.Sets(c.text)
		if errno != c.errno || at != c.at {
			t.Errorf("B5: Sets(%.60q) = %d, %d, want %d, %d", c.text, errno, at, c.errno, c.at)
		}
		if errno != api.OK && (empty != nil || first != nil) {
			t.Errorf("G2: Sets(%.60q) tells %v, %v beside %d", c.text, empty, first, errno)
		}
	}
}

func mustMake(t *testing.T, text string) api.Plain {
	t.Helper()
	made, errno, at := plain.Make(text)
	if errno != api.OK || at != 0 {
		t.Fatalf("B1: Make(%q) = %d, %d", text, errno, at)
	}
	return made
}

func TestFormFaults(t *testing.T) {
	checkMake(t, "B1",
		refusal{"", api.ErrForm, 0},
		refusal{"a=b;a=", api.ErrForm, 6},
		refusal{"a=b;a=(((((((((", api.ErrDeep, 14},
		refusal{strings.Repeat(" ", 1997) + "a=;", api.OK, 0},
		refusal{strings.Repeat(" ", 1998) + "a=;", api.ErrLong, 0},
		refusal{"a=\xff;", api.ErrForm, 2})
}

func TestTwice(t *testing.T) {
	checkMake(t, "B1",
		refusal{"%left A B A;a=;", api.ErrTwice, 10},
		refusal{"%left A;%left B A;a=;", api.ErrTwice, 16},
		refusal{"%left A;%right A;a=;", api.ErrTwice, 15},
		refusal{"%left A A;a=;a=;", api.ErrTwice, 8},
		refusal{"%left A B;a=A A B A;", api.OK, 0},
		refusal{"%left A;a=%prec A|%prec A;", api.OK, 0},
		refusal{"a=b b;b=;b =;a=;", api.ErrTwice, 9},
		refusal{"#a=;\na=;# a=;\n a=;", api.ErrTwice, 15},
		refusal{"a=a1;a1=;", api.OK, 0})
}

func TestUnknown(t *testing.T) {
	checkMake(t, "B1",
		refusal{"a=A b;", api.ErrName, 4},
		refusal{"a=b;b=((c)*)?;", api.ErrName, 8},
		refusal{"a=A %prec B b;", api.ErrForm, 12},
		refusal{"a=A %prec B|b;", api.ErrName, 10},
		refusal{"a=b %prec B;", api.ErrName, 2},
		refusal{"a=B %prec B;", api.ErrName, 10},
		refusal{"%left B;a=%prec B|%prec A;", api.ErrName, 24},
		refusal{"#b=;\na=b;", api.ErrName, 7},
		refusal{"a=c d;c=;", api.ErrName, 4})
}

func TestUnused(t *testing.T) {
	checkMake(t, "B1",
		refusal{"a=;b=;", api.ErrUnused, 3},
		refusal{"a=a;b=c;c=b;", api.ErrUnused, 4},
		refusal{"a=c;b=;c=;d=b;", api.ErrUnused, 4},
		refusal{"a=(c|(b)*)?;b=d+;c=;d=;e=a;", api.ErrUnused, 23},
		refusal{"a=c;b=;c=d;d=b;", api.OK, 0},
		refusal{"a=;\n# a = b\nb=a;", api.ErrUnused, 12})
}

func TestEndless(t *testing.T) {
	checkMake(t, "B1",
		refusal{"a=a;", api.ErrEndless, 0},
		refusal{"a=A a|(a);", api.ErrEndless, 0},
		refusal{"a=a+;", api.ErrEndless, 0},
		refusal{"a=a*;", api.OK, 0},
		refusal{"a=a?;", api.OK, 0},
		refusal{"a=(a A)*;", api.OK, 0},
		refusal{"a=(a A)+|(b|a)+;b=;", api.OK, 0},
		refusal{"a=(a|a A)+;", api.ErrEndless, 0},
		refusal{"a=(a|)+;", api.OK, 0},
		refusal{"a=|b;b=A c;c=b;", api.ErrEndless, 5},
		refusal{"a=c|b;b=b;c=C;", api.ErrEndless, 6},
		refusal{"a=b?;b=A c;c=d;d=D|b;", api.OK, 0},
		refusal{"a=b c;b=B;c=c C;", api.ErrEndless, 0},
		refusal{"a=(A b);b=(c|b);c=(d);d=(((b)));", api.ErrEndless, 0})
}

// TestOrder lays faults of several kinds into one text: the kind counts ahead of the place.
func TestOrder(t *testing.T) {
	checkMake(t, "B1",
		refusal{"a=a b;c=;c=;d=&", api.ErrForm, 14},
		refusal{"a=a b %prec A;c=;c=;", api.ErrTwice, 17},
		refusal{"b=b;a=c;", api.ErrName, 6},
		refusal{"a=a;b=;c=d;", api.ErrName, 9},
		refusal{"a=a;b=;", api.ErrUnused, 4},
		refusal{"a=" + strings.Repeat("|", 300) + ";a=;", api.ErrTwice, 303},
		refusal{"a=" + strings.Repeat("|", 300) + ";b=;", api.ErrUnused, 303},
		refusal{"a=" + strings.Repeat("|", 300) + "b;b=b;", api.ErrEndless, 304},
		refusal{"a=" + strings.Repeat("|", 300) + ";", api.ErrMany, 0})
}

func TestMany(t *testing.T) {
	for _, c := range []struct {
		name       string
		head, tail string
		rest       int // productions beside one for each part that stands between head and tail
	}{
		{"alts", "a=A", ";", 2},
		{"parts", "a=(A", ");", 3},
		{"parts or none", "a=(A", ")?;", 4},
		{"parts and rules", "a=(b", ");b=A|B;", 5},
	} {
		part := "|A"
		checkMake(t, "B1",
			refusal{c.head + strings.Repeat(part, 200-c.rest) + c.tail, api.OK, 0},
			refusal{c.head + strings.Repeat(part, 201-c.rest) + c.tail, api.ErrMany, 0})
	}
	checkMake(t, "B1",
		refusal{"a=(" + strings.Repeat("A|", 196) + "A)*;", api.OK, 0},
		refusal{"a=(" + strings.Repeat("A|", 197) + "A)*;", api.ErrMany, 0},
		refusal{"a=(" + strings.Repeat("A|", 98) + "A)+;", api.OK, 0},
		refusal{"a=(" + strings.Repeat("A|", 99) + "A)+;", api.ErrMany, 0},
		refusal{"a=" + strings.Repeat("A?", 99) + ";", api.OK, 0},
		refusal{"a=" + strings.Repeat("A?", 100) + ";", api.ErrMany, 0})
	text := "a=A" + strings.Repeat("|A", 198) + ";"
	if n := len(mustMake(t, text).Prods); n != 200 {
		t.Errorf("B1: %d productions, want just 200", n)
	}
}

func TestSymbols(t *testing.T) {
	made := mustMake(t, "%left Z A;# Q\nb=C a(A(D)*|E+)?F?%prec A|%prec Z;a=(G)|c(C);c=b?C;")
	tokens := []string{"$", "Z", "A", "C", "D", "E", "F", "G"}
	names := []string{"$start", "b", "b'1", "b'2", "b'3", "b'4", "a", "a'1", "a'2", "c", "c'1"}
	if !slices.Equal(made.Tokens, tokens) || !slices.Equal(made.Names, names) {
		t.Errorf("B2: %q, %q, want %q, %q", made.Tokens, made.Names, tokens, names)
	}
	made = mustMake(t, "a=;")
	if !slices.Equal(made.Tokens, []string{"$"}) || !slices.Equal(made.Names, []string{"$start", "a"}) {
		t.Errorf("B2: of a rule of nothing %q, %q", made.Tokens, made.Names)
	}
	made = mustMake(t, "%left X;a="+strings.Repeat("(A)", 11)+"%prec X;")
	if len(made.Names) != 13 || made.Names[12] != "a'11" || !slices.Equal(made.Tokens, []string{"$", "X", "A"}) {
		t.Errorf("B2: %q, %q", made.Tokens, made.Names)
	}
}

// told writes productions by the names of their symbols.
func told(made api.Plain) []string {
	name := func(symbol int) string { return slices.Concat(made.Tokens, made.Names)[symbol] }
	var out []string
	for _, prod := range made.Prods {
		line := name(prod.Left) + ":"
		for _, symbol := range prod.Right {
			line += " " + name(symbol)
		}
		if prod.Prec >= 0 {
			line += " %" + name(prod.Prec)
		}
		out = append(out, line)
	}
	return out
}

func TestProductions(t *testing.T) {
	for _, c := range []struct {
		text string
		want []string
	}{
		{"a=;", []string{"$start: a", "a:"}},
		{"a=A b|b B b|b|;b=C;", []string{"$start: a", "a: A b %A", "a: b B b %B", "a: b", "a:", "b: C %C"}},
		{"a=A B|B A;", []string{"$start: a", "a: A B %B", "a: B A %A"}},
		{"a=(A|B b|);b=;", []string{"$start: a", "a: a'1", "a'1: A %A", "a'1: B b %B", "a'1:", "b:"}},
		{"a=(A|B b)?;b=;", []string{"$start: a", "a: a'1", "a'1:", "a'1: A %A", "a'1: B b %B", "b:"}},
		{"a=(A|B b)*;b=;", []string{"$start: a", "a: a'1", "a'1:", "a'1: a'1 A %A", "a'1: a'1 B b %B", "b:"}},
		{"a=(A|B b)+;b=;", []string{"$start: a", "a: a'1", "a'1: A %A", "a'1: B b %B", "a'1: a'1 A %A", "a'1: a'1 B b %B", "b:"}},
		{"a=(|A)+;", []string{"$start: a", "a: a'1", "a'1:", "a'1: A %A", "a'1: a'1", "a'1: a'1 A %A"}},
		{"a=A? b*b+A?;b=;", []string{"$start: a", "a: a'1 a'2 a'3 a'4", "a'1:", "a'1: A %A", "a'2:", "a'2: a'2 b", "a'3: b", "a'3: a'3 b", "a'4:", "a'4: A %A", "b:"}},
		{"a=((A)B*)+|C?;", []string{"$start: a", "a: a'1", "a: a'4", "a'1: a'2 a'3", "a'1: a'1 a'2 a'3", "a'2: A %A", "a'3:", "a'3: a'3 B %B", "a'4:", "a'4: C %C"}},
		{"%left X Y;a=A b %prec X|%prec Y|Y(A)%prec X|b;b=(A)*;", []string{"$start: a", "a: A b %X", "a: %Y", "a: Y a'1 %X", "a: b", "a'1: A %A", "b: b'1", "b'1:", "b'1: b'1 A %A"}},
		{"a=b;b=(c);c=(C)|a?;", []string{"$start: a", "a: b", "b: b'1", "b'1: c", "c: c'1", "c: c'2", "c'1: C %C", "c'2:", "c'2: a"}},
	} {
		if got := told(mustMake(t, c.text)); !slices.Equal(got, c.want) {
			t.Errorf("B3: Make(%q) = %q, want %q", c.text, got, c.want)
		}
	}
	for i, prod := range mustMake(t, "a=A;").Prods {
		if want := []int{2, 3}[i]; prod.Left != want {
			t.Errorf("B2, B3: production %d has %d on its left, want %d", i, prod.Left, want)
		}
		if want := []int{-1, 1}[i]; prod.Prec != want {
			t.Errorf("B3: production %d has Prec %d, want %d", i, prod.Prec, want)
		}
	}
}

func TestLevels(t *testing.T) {
	made := mustMake(t, "%right B C;%none A;%left E;%none F;%left G;a=A B D;")
	// tokens $ B C A E F G D
	if want := []int{0, 1, 1, 2, 3, 4, 5, 0}; !slices.Equal(made.Binds, want) {
		t.Errorf("B4: Binds %v, want %v", made.Binds, want)
	}
	if want := []int{0, 1, 1, 2, 0, 2, 0, 0}; !slices.Equal(made.Kinds, want) {
		t.Errorf("B4: Kinds %v, want %v", made.Kinds, want)
	}
	made = mustMake(t, "a=;")
	if !slices.Equal(made.Binds, []int{0}) || !slices.Equal(made.Kinds, []int{0}) {
		t.Errorf("B4: without levels %v, %v", made.Binds, made.Kinds)
	}
}

func TestSets(t *testing.T) {
	for _, c := range []struct {
		text  string
		empty []bool
		first [][]int
	}{
		// tokens $; names $start a
		{"a=;", []bool{false, true, true}, [][]int{{0}, {}, {}}},
		// tokens $ A; names $start a
		{"a=a A|;", []bool{false, false, true, true}, [][]int{{0}, {1}, {1}, {1}}},
		// tokens $ B A C; names $start a b c
		{"a=b c B|A;b=|c;c=|C;", []bool{false, false, false, false, false, false, true, true},
			[][]int{{0}, {1}, {2}, {3}, {1, 2, 3}, {1, 2, 3}, {3}, {3}}},
		// tokens $ A B; names $start a a'1 a'2
		{"a=A* B+;", []bool{false, false, false, false, false, true, false},
			[][]int{{0}, {1}, {2}, {1, 2}, {1, 2}, {1}, {2}}},
		// tokens $ B A; names $start b c d
		{"b=c B;c=d;d=b A|A;", []bool{false, false, false, false, false, false, false},
			[][]int{{0}, {1}, {2}, {2}, {2}, {2}, {2}}},
	} {
		empty, first, errno, at := plain.Sets(c.text)
		if errno != api.OK || at != 0 || !slices.Equal(empty, c.empty) {
			t.Errorf("B5: Sets(%q): empty %v, want %v (%d, %d)", c.text, empty, c.empty, errno, at)
		}
		if !slices.EqualFunc(first, c.first, func(a, b []int) bool { return slices.Equal(a, b) }) {
			t.Errorf("B5: Sets(%q): first %v, want %v", c.text, first, c.first)
		}
	}
}

// randomGrammar makes a text of few rules, names of one letter and tokens of one letter.
func randomGrammar(r *rand.Rand) string {
	names := []string{"a", "b", "c"}[:1+r.Intn(3)]
	var out strings.Builder
	for _, name := range names {
		out.WriteString(name + " =" + randomAlts(r, names, 2) + ";\n")
	}
	return out.String()
}

func randomAlts(r *rand.Rand, names []string, depth int) string {
	out := ""
	for i := range 1 + r.Intn(3) {
		if i > 0 {
			out += " |"
		}
		for range r.Intn(3) {
			mark := []string{"", "", "", "*", "+", "?"}[r.Intn(6)]
			switch kind := r.Intn(5); {
			case kind < 2:
				out += " " + []string{"A", "B", "C"}[r.Intn(3)] + mark
			case kind < 4 || depth == 0:
				out += " " + names[r.Intn(len(names))] + mark
			default:
				out += " (" + randomAlts(r, names, depth-1) + ")" + mark
			}
		}
	}
	return out
}

// eachRandom hands grammars that have no fault, and what is made of them, on to check.
func eachRandom(t *testing.T, seed int64, check func(text string, made api.Plain)) {
	t.Helper()
	r := rand.New(rand.NewSource(seed))
	count := 0
	for range 1500 {
		text := randomGrammar(r)
		if made, errno, _ := plain.Make(text); errno == api.OK {
			count++
			check(text, made)
		}
	}
	if count < 200 {
		t.Errorf("only %d of the grammars had no fault", count)
	}
}

func TestMeaning(t *testing.T) {
	const longest = 4
	eachRandom(t, 1, func(text string, made api.Plain) {
		grammar, _, _ := gram.Parse(text)
		want := meaning{longest: longest}.ofFirst(grammar.Rules)
		got := derived(made, func(a, b string) (string, bool) { return a + b, len(a+b) <= longest })[len(made.Tokens)]
		if !reflect.DeepEqual(got, want) {
			t.Errorf("B6: of the productions of %q come %v, it means %v", text, got, want)
		}
	})
}

func TestSetsOfRandom(t *testing.T) {
	eachRandom(t, 2, func(text string, made api.Plain) {
		empty, first, _, _ := plain.Sets(text)
		if len(empty) != len(made.Tokens)+len(made.Names) || len(first) != len(empty) {
			t.Fatalf("B5: Sets(%q) tells of %d and %d symbols", text, len(empty), len(first))
		}
		for symbol, begins := range derived(made, func(a, b string) (string, bool) { return (a + b)[:min(1, len(a+b))], true }) {
			var want []int
			for i, token := range made.Tokens {
				if begins[token] {
					want = append(want, i)
				}
			}
			if empty[symbol] != begins[""] || !slices.Equal(first[symbol], want) {
				t.Errorf("B5: Sets(%q): symbol %d: %v, %v, want %v, %v", text, symbol, empty[symbol], first[symbol], begins[""], want)
			}
		}
	})
}

func TestAnyText(t *testing.T) {
	r := rand.New(rand.NewSource(3))
	signs := "aaabcABC===;;;;|()*+?  \n#%\x00\xff"
	for range 20000 {
		b := make([]byte, r.Intn(30))
		for i := range b {
			b[i] = signs[r.Intn(len(signs))]
		}
		_, parsed, where := gram.Parse(string(b))
		made, errno, at := plain.Make(string(b))
		if parsed != api.OK && (errno != parsed || at != where) || at < 0 || at > len(b) || (errno == api.OK) != (made.Prods != nil) {
			t.Errorf("G1, G2, B1: Make(%q) = %v, %d, %d", b, made, errno, at)
		}
	}
}

// checkApart writes over each list, as far as its memory goes, and holds against G4 that no other one is changed.
func checkApart(t *testing.T, lists [][]int) {
	t.Helper()
	for i, list := range lists {
		list = list[:cap(list)]
		for k := range list {
			list[k] = -2 - i
		}
	}
	for i, list := range lists {
		for _, x := range list[:cap(list)] {
			if x != -2-i {
				t.Errorf("G4: lists %d and %d of one answer share memory", i, -2-x)
			}
		}
	}
}

func TestNewMemory(t *testing.T) {
	text := "%left A B;a=A b (B b|A)+ (A)* %prec B|b (A|b A b)+;b=A?|B+|A B A B;"
	made := mustMake(t, text)
	before := fmt.Sprint(made)
	other := mustMake(t, text)
	lists := [][]int{other.Binds, other.Kinds}
	for _, prod := range other.Prods {
		lists = append(lists, prod.Right)
	}
	checkApart(t, lists)
	other.Tokens[1], other.Names[1] = "spoilt", "spoilt"
	other.Prods[1] = api.Prod{}
	if fmt.Sprint(made) != before || fmt.Sprint(mustMake(t, text)) != before {
		t.Errorf("G3, G4: two answers share memory: %v, was %v", made, before)
	}
	empty, first, _, _ := plain.Sets(text)
	before = fmt.Sprint(empty, first)
	spoilt, lists, _, _ := plain.Sets(text)
	spoilt[0] = true
	checkApart(t, lists)
	if fmt.Sprint(empty, first) != before {
		t.Errorf("G4: two answers of Sets share memory: %v, %v, was %v", empty, first, before)
	}
}
