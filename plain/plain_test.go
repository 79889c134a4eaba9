package plain_test

import (
	"reflect"
	"slices"
	"strings"
	"testing"

	"comb/api"
	"comb/plain"
)

// refusal is a text, and what is answered to it.
type refusal struct {
	text  string
	errno api.Errno
	at    int
}

func checkMake(t *testing.T, promise string, cases ...refusal) {
	t.Helper()
	for _, c := range cases {
		made, errno, at := plain.Make(c.text)
		if errno != c.errno || at != c.at {
			t.Errorf("%s: Make(%.60q) = %d, %d, want %d, %d", promise, c.text, errno, at, c.errno, c.at)
		}
		if errno != api.OK && !reflect.DeepEqual(made, api.Plain{}) {
			t.Errorf("G2: Make(%.60q) tells %v beside %d", c.text, made, errno)
		}
		empty, first, errno, at := plain.Sets(c.text)
		if errno != c.errno || at != c.at {
			t.Errorf("B5: Sets(%.60q) = %d, %d, want %d, %d", c.text, errno, at, c.errno, c.at)
		}
		if errno != api.OK && (empty != nil || first != nil) {
			t.Errorf("G2: Sets(%.60q) tells %v, %v beside %d", c.text, empty, first, errno)
		}
	}
}

func mustMake(t *testing.T, text string) api.Plain {
	t.Helper()
	made, errno, at := plain.Make(text)
	if errno != api.OK || at != 0 {
		t.Fatalf("B1: Make(%q) = %d, %d", text, errno, at)
	}
	return made
}

func TestFormFaults(t *testing.T) {
	checkMake(t, "B1",
		refusal{"", api.ErrForm, 0},
		refusal{"a=b;a=", api.ErrForm, 6},
		refusal{"a=b;a=(((((((((", api.ErrDeep, 14},
		refusal{strings.Repeat(" ", 1997) + "a=;", api.OK, 0},
		refusal{strings.Repeat(" ", 1998) + "a=;", api.ErrLong, 0},
		refusal{"a=\xff;", api.ErrForm, 2})
}

func TestTwice(t *testing.T) {
	checkMake(t, "B1",
		refusal{"%left A B A;a=;", api.ErrTwice, 10},
		refusal{"%left A;%left B A;a=;", api.ErrTwice, 16},
		refusal{"%left A;%right A;a=;", api.ErrTwice, 15},
		refusal{"%left A A;a=;a=;", api.ErrTwice, 8},
		refusal{"%left A B;a=A A B A;", api.OK, 0},
		refusal{"%left A;a=%prec A|%prec A;", api.OK, 0},
		refusal{"a=b b;b=;b =;a=;", api.ErrTwice, 9},
		refusal{"#a=;\na=;# a=;\n a=;", api.ErrTwice, 15},
		refusal{"a=a1;a1=;", api.OK, 0})
}

func TestUnknown(t *testing.T) {
	checkMake(t, "B1",
		refusal{"a=A b;", api.ErrName, 4},
		refusal{"a=b;b=((c)*)?;", api.ErrName, 8},
		refusal{"a=A %prec B b;", api.ErrForm, 12},
		refusal{"a=A %prec B|b;", api.ErrName, 10},
		refusal{"a=b %prec B;", api.ErrName, 2},
		refusal{"a=B %prec B;", api.ErrName, 10},
		refusal{"%left B;a=%prec B|%prec A;", api.ErrName, 24},
		refusal{"#b=;\na=b;", api.ErrName, 7},
		refusal{"a=c d;c=;", api.ErrName, 4})
}

func TestUnused(t *testing.T) {
	checkMake(t, "B1",
		refusal{"a=;b=;", api.ErrUnused, 3},
		refusal{"a=a;b=c;c=b;", api.ErrUnused, 4},
		refusal{"a=c;b=;c=;d=b;", api.ErrUnused, 4},
		refusal{"a=(c|(b)*)?;b=d+;c=;d=;e=a;", api.ErrUnused, 23},
		refusal{"a=c;b=;c=d;d=b;", api.OK, 0},
		refusal{"a=;\n# a = b\nb=a;", api.ErrUnused, 12})
}

func TestEndless(t *testing.T) {
	checkMake(t, "B1",
		refusal{"a=a;", api.ErrEndless, 0},
		refusal{"a=A a|(a);", api.ErrEndless, 0},
		refusal{"a=a+;", api.ErrEndless, 0},
		refusal{"a=a*;", api.OK, 0},
		refusal{"a=a?;", api.OK, 0},
		refusal{"a=(a A)*;", api.OK, 0},
		refusal{"a=(a A)+|(b|a)+;b=;", api.OK, 0},
		refusal{"a=(a|a A)+;", api.ErrEndless, 0},
		refusal{"a=(a|)+;", api.OK, 0},
		refusal{"a=|b;b=A c;c=b;", api.ErrEndless, 5},
		refusal{"a=c|b;b=b;c=C;", api.ErrEndless, 6},
		refusal{"a=b?;b=A c;c=d;d=D|b;", api.OK, 0},
		refusal{"a=b c;b=B;c=c C;", api.ErrEndless, 0},
		refusal{"a=(A b);b=(c|b);c=(d);d=(((b)));", api.ErrEndless, 0})
}

// TestOrder lays faults of several kinds into one text: the kind counts ahead of the place.
func TestOrder(t *testing.T) {
	checkMake(t, "B1",
		refusal{"a=a b;c=;c=;d=&", api.ErrForm, 14},
		refusal{"a=a b %prec A;c=;c=;", api.ErrTwice, 17},
		refusal{"b=b;a=c;", api.ErrName, 6},
		refusal{"a=a;b=;c=d;", api.ErrName, 9},
		refusal{"a=a;b=;", api.ErrUnused, 4},
		refusal{"a=" + strings.Repeat("|", 300) + ";a=;", api.ErrTwice, 303},
		refusal{"a=" + strings.Repeat("|", 300) + ";b=;", api.ErrUnused, 303},
		refusal{"a=" + strings.Repeat("|", 300) + "b;b=b;", api.ErrEndless, 304},
		refusal{"a=" + strings.Repeat("|", 300) + ";", api.ErrMany, 0})
}

func TestMany(t *testing.T) {
	for _, c := range []struct {
		name       string
		head, tail string
		rest       int // productions beside one for each part that stands between head and tail
	}{
		{"alts", "a=A", ";", 2},
		{"parts", "a=(A", ");", 3},
		{"parts or none", "a=(A", ")?;", 4},
		{"parts and rules", "a=(b", ");b=A|B;", 5},
	} {
		part := "|A"
		checkMake(t, "B1",
			refusal{c.head + strings.Repeat(part, 200-c.rest) + c.tail, api.OK, 0},
			refusal{c.head + strings.Repeat(part, 201-c.rest) + c.tail, api.ErrMany, 0})
	}
	checkMake(t, "B1",
		refusal{"a=(" + strings.Repeat("A|", 196) + "A)*;", api.OK, 0},
		refusal{"a=(" + strings.Repeat("A|", 197) + "A)*;", api.ErrMany, 0},
		refusal{"a=(" + strings.Repeat("A|", 98) + "A)+;", api.OK, 0},
		refusal{"a=(" + strings.Repeat("A|", 99) + "A)+;", api.ErrMany, 0},
		refusal{"a=" + strings.Repeat("A?", 99) + ";", api.OK, 0},
		refusal{"a=" + strings.Repeat("A?", 100) + ";", api.ErrMany, 0})
	text := "a=A" + strings.Repeat("|A", 198) + ";"
	if n := len(mustMake(t, text).Prods); n != 200 {
		t.Errorf("B1: %d productions, want just 200", n)
	}
}

func TestSymbols(t *testing.T) {
	made := mustMake(t, "%left Z A;# Q\nb=C a(A(D)*|E+)?F?%prec A|%prec Z;a=(G)|c(C);c=b?C;")
	tokens := []string{"$", "Z", "A", "C", "D", "E", "F", "G"}
	names := []string{"$start", "b", "b'1", "b'2", "b'3", "b'4", "a", "a'1", "a'2", "c", "c'1"}
	if !slices.Equal(made.Tokens, tokens) || !slices.Equal(made.Names, names) {
		t.Errorf("B2: %q, %q, want %q, %q", made.Tokens, made.Names, tokens, names)
	}
	made = mustMake(t, "a=;")
	if !slices.Equal(made.Tokens, []string{"$"}) || !slices.Equal(made.Names, []string{"$start", "a"}) {
		t.Errorf("B2: of a rule of nothing %q, %q", made.Tokens, made.Names)
	}
	made = mustMake(t, "%left X;a="+strings.Repeat("(A)", 11)+"%prec X;")
	if len(made.Names) != 13 || made.Names[12] != "a'11" || !slices.Equal(made.Tokens, []string{"$", "X", "A"}) {
		t.Errorf("B2: %q, %q", made.Tokens, made.Names)
	}
}

// told writes productions by the names of their symbols.
func told(made api.Plain) []string {
	name := func(symbol int) string { return slices.Concat(made.Tokens, made.Names)[symbol] }
	var out []string
	for _, prod := range made.Prods {
		line := name(prod.Left) + ":"
		for _, symbol := range prod.Right {
			line += " " + name(symbol)
		}
		if prod.Prec >= 0 {
			line += " %" + name(prod.Prec)
		}
		out = append(out, line)
	}
	return out
}

func TestProductions(t *testing.T) {
	for _, c := range []struct {
		text string
		want []string
	}{
		{"a=;", []string{"$start: a", "a:"}},
		{"a=A b|b B b|b|;b=C;", []string{"$start: a", "a: A b %A", "a: b B b %B", "a: b", "a:", "b: C %C"}},
		{"a=A B|B A;", []string{"$start: a", "a: A B %B", "a: B A %A"}},
		{"a=(A|B b|);b=;", []string{"$start: a", "a: a'1", "a'1: A %A", "a'1: B b %B", "a'1:", "b:"}},
		{"a=(A|B b)?;b=;", []string{"$start: a", "a: a'1", "a'1:", "a'1: A %A", "a'1: B b %B", "b:"}},
		{"a=(A|B b)*;b=;", []string{"$start: a", "a: a'1", "a'1:", "a'1: a'1 A %A", "a'1: a'1 B b %B", "b:"}},
		{"a=(A|B b)+;b=;", []string{"$start: a", "a: a'1", "a'1: A %A", "a'1: B b %B", "a'1: a'1 A %A", "a'1: a'1 B b %B", "b:"}},
		{"a=(|A)+;", []string{"$start: a", "a: a'1", "a'1:", "a'1: A %A", "a'1: a'1", "a'1: a'1 A %A"}},
		{"a=A? b*b+A?;b=;", []string{"$start: a", "a: a'1 a'2 a'3 a'4", "a'1:", "a'1: A %A", "a'2:", "a'2: a'2 b", "a'3: b", "a'3: a'3 b", "a'4:", "a'4: A %A", "b:"}},
		{"a=((A)B*)+|C?;", []string{"$start: a", "a: a'1", "a: a'4", "a'1: a'2 a'3", "a'1: a'1 a'2 a'3", "a'2: A %A", "a'3:", "a'3: a'3 B %B", "a'4:", "a'4: C %C"}},
		{"%left X Y;a=A b %prec X|%prec Y|Y(A)%prec X|b;b=(A)*;", []string{"$start: a", "a: A b %X", "a: %Y", "a: Y a'1 %X", "a: b", "a'1: A %A", "b: b'1", "b'1:", "b'1: b'1 A %A"}},
		{"a=b;b=(c);c=(C)|a?;", []string{"$start: a", "a: b", "b: b'1", "b'1: c", "c: c'1", "c: c'2", "c'1: C %C", "c'2:", "c'2: a"}},
	} {
		if got := told(mustMake(t, c.text)); !slices.Equal(got, c.want) {
			t.Errorf("B3: Make(%q) = %q, want %q", c.text, got, c.want)
		}
	}
	for i, prod := range mustMake(t, "a=A;").Prods {
		if want := []int{2, 3}[i]; prod.Left != want {
			t.Errorf("B2, B3: production %d has %d on its left, want %d", i, prod.Left, want)
		}
		if want := []int{-1, 1}[i]; prod.Prec != want {
			t.Errorf("B3: production %d has Prec %d, want %d", i, prod.Prec, want)
		}
	}
}

func TestLevels(t *testing.T) {
	made := mustMake(t, "%right B C;%none A;%left E;%none F;%left G;a=A B D;")
	// tokens $ B C A E F G D
	if want := []int{0, 1, 1, 2, 3, 4, 5, 0}; !slices.Equal(made.Binds, want) {
		t.Errorf("B4: Binds %v, want %v", made.Binds, want)
	}
	if want := []int{0, 1, 1, 2, 0, 2, 0, 0}; !slices.Equal(made.Kinds, want) {
		t.Errorf("B4: Kinds %v, want %v", made.Kinds, want)
	}
	made = mustMake(t, "a=;")
	if !slices.Equal(made.Binds, []int{0}) || !slices.Equal(made.Kinds, []int{0}) {
		t.Errorf("B4: without levels %v, %v", made.Binds, made.Kinds)
	}
}

func TestSets(t *testing.T) {
	for _, c := range []struct {
		text  string
		empty []bool
		first [][]int
	}{
		// tokens $; names $start a
		{"a=;", []bool{false, true, true}, [][]int{{0}, {}, {}}},
		// tokens $ A; names $start a
		{"a=a A|;", []bool{false, false, true, true}, [][]int{{0}, {1}, {1}, {1}}},
		// tokens $ B A C; names $start a b c
		{"a=b c B|A;b=|c;c=|C;", []bool{false, false, false, false, false, false, true, true},
			[][]int{{0}, {1}, {2}, {3}, {1, 2, 3}, {1, 2, 3}, {3}, {3}}},
		// tokens $ A B; names $start a a'1 a'2
		{"a=A* B+;", []bool{false, false, false, false, false, true, false},
			[][]int{{0}, {1}, {2}, {1, 2}, {1, 2}, {1}, {2}}},
		// tokens $ B A; names $start b c d
		{"b=c B;c=d;d=b A|A;", []bool{false, false, false, false, false, false, false},
			[][]int{{0}, {1}, {2}, {2}, {2}, {2}, {2}}},
	} {
		empty, first, errno, at := plain.Sets(c.text)
		if errno != api.OK || at != 0 || !slices.Equal(empty, c.empty) {
			t.Errorf("B5: Sets(%q): empty %v, want %v (%d, %d)", c.text, empty, c.empty, errno, at)
		}
		if !slices.EqualFunc(first, c.first, func(a, b []int) bool { return slices.Equal(a, b) }) {
			t.Errorf("B5: Sets(%q): first %v, want %v", c.text, first, c.first)
		}
	}
}
