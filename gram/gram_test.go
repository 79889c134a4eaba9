package gram_test

import (
	"fmt"
	"math/rand"
	"reflect"
	"strings"
	"testing"

	"comb/api"
	"comb/gram"
)

// refusal is a text, and what is answered to it.
type refusal struct {
	text  string
	errno api.Errno
	at    int
}

func checkParse(t *testing.T, promise string, cases ...refusal) {
	t.Helper()
	for _, c := range cases {
		grammar, errno, at := gram.Parse(c.text)
		if errno != c.errno || at != c.at {
			t.Errorf("%s: Parse(%.60q) = %d, %d, want %d, %d", promise, c.text, errno, at, c.errno, c.at)
		}
		if errno != api.OK && !reflect.DeepEqual(grammar, api.Grammar{}) {
			t.Errorf("G2: Parse(%.60q) tells a grammar beside %d", c.text, errno)
		}
		form, errno, at := gram.Print(c.text)
		if errno != c.errno || at != c.at {
			t.Errorf("A3: Print(%.60q) = %d, %d, want %d, %d", c.text, errno, at, c.errno, c.at)
		}
		if (errno == api.OK) == (form == "") {
			t.Errorf("G2, A3: Print(%.60q) = %q beside %d", c.text, form, errno)
		}
	}
}

func TestLong(t *testing.T) {
	fill := func(head string, size int) string { return head + strings.Repeat(" ", size-len(head)) }
	checkParse(t, "A1",
		refusal{fill("a=A;", 2000), api.OK, 0},
		refusal{fill("a=A;", 2001), api.ErrLong, 0},
		refusal{fill("&", 2000), api.ErrForm, 0},
		refusal{fill("a=A", 2000), api.ErrForm, 2000},
		refusal{fill("&", 2001), api.ErrLong, 0},
		refusal{"a=" + strings.Repeat("(", 1998), api.ErrDeep, 10},
		refusal{"a=" + strings.Repeat("(", 1999), api.ErrLong, 0},
		refusal{strings.Repeat("#", 1<<20), api.ErrLong, 0})
}

func TestFormOfLevels(t *testing.T) {
	checkParse(t, "A1",
		refusal{"%left A;a=;", api.OK, 0},
		refusal{"%left A B1 A;%right C;%none D;%left E;a=;", api.OK, 0},
		refusal{"%left;a=;", api.ErrForm, 5},
		refusal{"%left a;a=;", api.ErrForm, 6},
		refusal{"%left A a;a=;", api.ErrForm, 8},
		refusal{"%left A %left B;a=;", api.ErrForm, 8},
		refusal{"%left A,B;a=;", api.ErrForm, 7},
		refusal{"%left A;;a=;", api.ErrForm, 8},
		refusal{"a=;%left A;", api.ErrForm, 3},
		refusal{"%prec A;a=;", api.ErrForm, 0},
		refusal{"%leftA;a=;", api.ErrForm, 0},
		refusal{"%Left A;a=;", api.ErrForm, 0},
		refusal{"%left1 A;a=;", api.ErrForm, 0},
		refusal{" % left A;a=;", api.ErrForm, 1},
		refusal{"%%left A;a=;", api.ErrForm, 0},
		refusal{"%left%left A;a=;", api.ErrForm, 5},
		refusal{"left A;a=;", api.ErrForm, 5})
}

func TestFormOfRules(t *testing.T) {
	checkParse(t, "A1",
		refusal{"a=;", api.OK, 0},
		refusal{"a=|||;", api.OK, 0},
		refusal{"a=(|)?(());", api.OK, 0},
		refusal{"a=A%prec B|%prec A;", api.OK, 0},
		refusal{"#\na#=\n=#;\n;#", api.OK, 0},
		refusal{"A=;", api.ErrForm, 0},
		refusal{"=;", api.ErrForm, 0},
		refusal{";", api.ErrForm, 0},
		refusal{"a;", api.ErrForm, 1},
		refusal{"a A=;", api.ErrForm, 2},
		refusal{"a==;", api.ErrForm, 2},
		refusal{"a=;;", api.ErrForm, 3},
		refusal{"a=;B=;", api.ErrForm, 3},
		refusal{"a=b=;", api.ErrForm, 3},
		refusal{"a=*;", api.ErrForm, 2},
		refusal{"a=A*?;", api.ErrForm, 4},
		refusal{"a=A|+;", api.ErrForm, 4},
		refusal{"a=(*);", api.ErrForm, 3},
		refusal{"a=A);", api.ErrForm, 3},
		refusal{"a=(A;", api.ErrForm, 4},
		refusal{"a=(A));", api.ErrForm, 5},
		refusal{"a=A %prec;", api.ErrForm, 9},
		refusal{"a=A %prec b;", api.ErrForm, 10},
		refusal{"a=A %prec A B;", api.ErrForm, 12},
		refusal{"a=A %prec A*;", api.ErrForm, 11},
		refusal{"a=A %prec A %prec B;", api.ErrForm, 12},
		refusal{"a=(A %prec A);", api.ErrForm, 5},
		refusal{"a=((A) %prec A);", api.ErrForm, 7},
		refusal{"a=%left;", api.ErrForm, 2},
		refusal{"a=A %pre B;", api.ErrForm, 4},
		refusal{"a=A % prec B;", api.ErrForm, 4},
		refusal{"a=A\r;", api.ErrForm, 3},
		refusal{"a=A'1;", api.ErrForm, 3},
		refusal{"a=\xc3\x84;", api.ErrForm, 2})
}

func TestLengthOfWords(t *testing.T) {
	checkParse(t, "A1",
		refusal{"abcdefghij12=abcdefghij12 ABCDEFGHIJ12;", api.OK, 0},
		refusal{"abcdefghij123=;", api.ErrForm, 0},
		refusal{"a=A abcdefghij123;", api.ErrForm, 4},
		refusal{"a=A ABCDEFGHIJ123;", api.ErrForm, 4},
		refusal{"%left ABCDEFGHIJ12;a=;", api.OK, 0},
		refusal{"%left ABCDEFGHIJ123;a=;", api.ErrForm, 6},
		refusal{"a=%prec ABCDEFGHIJ12;", api.OK, 0},
		refusal{"a=%prec ABCDEFGHIJ123;", api.ErrForm, 8},
		refusal{"a=bC;", api.ErrForm, 2},
		refusal{"a=Bc;", api.ErrForm, 2},
		refusal{"a=1B;", api.ErrForm, 2},
		refusal{"aB=;", api.ErrForm, 0},
		refusal{"1a=;", api.ErrForm, 0})
}

func TestDeep(t *testing.T) {
	open := func(n int) string { return "a=" + strings.Repeat("(", n) }
	checkParse(t, "A1",
		refusal{open(8) + "A" + strings.Repeat(")", 8) + ";", api.OK, 0},
		refusal{open(9) + "A" + strings.Repeat(")", 9) + ";", api.ErrDeep, 10},
		refusal{open(9), api.ErrDeep, 10},
		refusal{open(8) + "&(", api.ErrForm, 10},
		refusal{open(8), api.ErrForm, 10},
		refusal{open(8) + "(&", api.ErrDeep, 10},
		refusal{open(8) + ")(A)" + strings.Repeat(")", 7) + ";", api.OK, 0},
		refusal{open(8) + ")((A)", api.ErrDeep, 12},
		refusal{open(8) + "A|B (", api.ErrDeep, 14},
		refusal{"a=" + strings.Repeat("(A)*", 20) + ";b=" + strings.Repeat("(A)?", 20) + ";", api.OK, 0},
		refusal{"a=A" + strings.Repeat("(", 8) + strings.Repeat(")", 8) + ";((", api.ErrForm, 20})
}

// TestEarlyEnd cuts a text behind each of its bytes.
func TestEarlyEnd(t *testing.T) {
	text := "%left A B;# c\n%none C;a=(A | b1)* c ? %prec A|;\nb1 =\tA+;c=((B)C)  ;# e"
	for n := range len(text) + 1 {
		piece := text[:n]
		want := refusal{piece, api.ErrForm, n}
		if sign := strings.LastIndexByte(piece, '%'); sign >= 0 && !strings.ContainsAny(piece[sign:], " ") {
			switch piece[sign:] {
			case "%left", "%none", "%prec":
			default:
				want.at = sign
			}
		}
		bare := strings.TrimRight(piece, " \n")
		if strings.Contains(piece, "a=") && (strings.HasSuffix(bare, ";") || n > len(text)-4) {
			want = refusal{piece, api.OK, 0}
		}
		checkParse(t, "A1", want)
	}
}

// TestAnyByte lays each byte between two tokens.
func TestAnyByte(t *testing.T) {
	for c := range 256 {
		text := "a=A" + string([]byte{byte(c)}) + "B;"
		want := refusal{text, api.ErrForm, 3}
		switch {
		case strings.IndexByte(" \t\n|*+?", byte(c)) >= 0, 'A' <= c && c <= 'Z', '0' <= c && c <= '9':
			want = refusal{text, api.OK, 0}
		case 'a' <= c && c <= 'z':
			want.at = 2
		case c == '#':
			want.at = len(text)
		case c == ';':
			want.at = 4
		case c == '(':
			want.at = 5
		}
		checkParse(t, "A1", want)
	}
}

func TestGrammar(t *testing.T) {
	text := "%left A B;%right C;%none D1;\na = b* A+ (c ? | | (B)) %prec D1 | ;b=;c=C|b %prec A;"
	item := func(kind int, name string, mark byte) api.Item { return api.Item{Kind: kind, Name: name, Mark: mark} }
	alt := func(items ...api.Item) api.Alt { return api.Alt{Items: items} }
	inner := api.Item{Kind: 2, Alts: []api.Alt{alt(item(1, "B", 0))}}
	group := api.Item{Kind: 2, Alts: []api.Alt{alt(item(0, "c", '?')), {}, alt(inner)}}
	want := api.Grammar{
		Levels: []api.Level{{Kind: 0, Tokens: []string{"A", "B"}}, {Kind: 1, Tokens: []string{"C"}}, {Kind: 2, Tokens: []string{"D1"}}},
		Rules: []api.Rule{
			{Name: "a", Alts: []api.Alt{{Items: []api.Item{item(0, "b", '*'), item(1, "A", '+'), group}, Prec: "D1"}, {}}},
			{Name: "b", Alts: []api.Alt{{}}},
			{Name: "c", Alts: []api.Alt{alt(item(1, "C", 0)), {Items: []api.Item{item(0, "b", 0)}, Prec: "A"}}},
		},
	}
	if got, errno, _ := gram.Parse(text); errno != api.OK || !reflect.DeepEqual(got, want) {
		t.Errorf("A2: Parse(%q) = %v, %d, want %v", text, got, errno, want)
	}
	want = api.Grammar{Rules: []api.Rule{{Name: "a", Alts: []api.Alt{alt(api.Item{Kind: 2, Mark: '+', Alts: []api.Alt{{}}})}}}}
	if got, errno, _ := gram.Parse("a=()+;"); errno != api.OK || !reflect.DeepEqual(got, want) {
		t.Errorf("A2: of a group of nothing %v, %d, want %v", got, errno, want)
	}
}

func TestPlainForm(t *testing.T) {
	for text, want := range map[string]string{
		"a=;":                             "a =;\n",
		"a=A B|b*;b=;":                    "a = A B | b*;\nb =;\n",
		"%left A  B ; %none\tC;a=A":       "",
		"%left A  B ; %none\tC;a=A;":      "%left A B;\n%none C;\na = A;\n",
		"a=(|)(A)(B)+ ( ( C ) ? ) * D;":   "a = (|) (A) (B)+ ((C)?)* D;\n",
		"a=%prec A|%prec B;":              "a = %prec A | %prec B;\n",
		"a=A%prec B;":                     "a = A %prec B;\n",
		"a=(|A|)?;":                       "a = (| A |)?;\n",
		"a # = b;\n=\n# (\nA # )\n;\n#\n": "a = A;\n",
	} {
		if got, _, _ := gram.Print(text); got != want {
			t.Errorf("A3: Print(%q) = %q, want %q", text, got, want)
		}
	}
}

// randomSigns makes a text of signs, most of which can stand where they do for a while.
func randomSigns(r *rand.Rand) string {
	signs := []string{"a", "b1", "A", "B", "A1", "=", "=", ";", ";", "|", "(", "(", ")", ")", "*", "+", "?", "%prec", "%left", "%none", "aB", "1", "&", "%"}
	gaps := []string{"", " ", "\n", "\t ", "#x;\n"}
	var out strings.Builder
	if r.Intn(8) > 0 {
		out.WriteString("a=")
	}
	for range r.Intn(16) {
		out.WriteString(gaps[r.Intn(len(gaps))] + signs[r.Intn(len(signs))])
	}
	return out.String()
}

// canGoOn tells whether a piece that ends behind a sign begins some grammar.
func canGoOn(piece string) bool {
	for _, next := range []string{"", " A", " a=", "="} {
		for n := range 9 {
			for _, end := range []string{"", ";", ";a=;"} {
				if _, errno, _ := gram.Parse(piece + next + strings.Repeat(")", n) + end); errno == api.OK {
					return true
				}
			}
		}
	}
	return false
}

// TestFirstFromTheLeft holds against A1 that what stands ahead of a fault can stand there.
func TestFirstFromTheLeft(t *testing.T) {
	r := rand.New(rand.NewSource(1))
	for range 3000 {
		text := randomSigns(r)
		_, errno, at := gram.Parse(text)
		if errno != api.OK && !canGoOn(text[:at]+"\n") {
			t.Errorf("A1: Parse(%q) = %d, %d: not the first one", text, errno, at)
		}
	}
}

// TestPlainFormTwice holds against A3 that the plain form is a text of the same grammar, and its own plain form.
func TestPlainFormTwice(t *testing.T) {
	r := rand.New(rand.NewSource(2))
	count := 0
	for range 30000 {
		text := randomSigns(r)
		grammar, errno, _ := gram.Parse(text)
		if errno != api.OK {
			continue
		}
		count++
		form, _, _ := gram.Print(text)
		again, _, _ := gram.Print(form)
		same, _, _ := gram.Parse(form)
		if again != form || !reflect.DeepEqual(same, grammar) {
			t.Errorf("A3: Print(%q) = %q, of which it is %q", text, form, again)
		}
	}
	if count < 100 {
		t.Errorf("only %d of the texts were grammars", count)
	}
}

func TestAnyBytes(t *testing.T) {
	r := rand.New(rand.NewSource(3))
	for range 3000 {
		b := make([]byte, r.Intn(40))
		r.Read(b)
		grammar, errno, at := gram.Parse(string(b))
		if at < 0 || at > len(b) || errno == api.OK && at != 0 || errno != api.OK && grammar.Rules != nil {
			t.Errorf("G1, G2: Parse(%q) = %v, %d, %d", b, grammar, errno, at)
		}
	}
}

// spoil writes over all lists of alts, and behind their ends as far as their memory goes.
func spoil(alts []api.Alt) {
	for i := range alts {
		items := alts[i].Items
		for k := range items {
			spoil(items[k].Alts)
		}
		items = items[:cap(items)]
		for k := range items {
			items[k] = api.Item{Kind: 9}
		}
	}
	alts = alts[:cap(alts)]
	for i := range alts {
		alts[i] = api.Alt{Prec: "spoilt"}
	}
}

func TestNewMemory(t *testing.T) {
	text := "%left A B C;%none D;a=A (b (A) C | D)* B|C;b=A|B|((C) D)+|;"
	want, _, _ := gram.Parse(text)
	before := fmt.Sprint(want)
	other, _, _ := gram.Parse(text)
	spoil(other.Rules[0].Alts)
	other.Levels[0].Tokens[0] = "spoilt"
	rules := other.Rules[1:]
	if fmt.Sprint(rules) != fmt.Sprint(want.Rules[1:]) || fmt.Sprint(other.Levels[1:]) != fmt.Sprint(want.Levels[1:]) {
		t.Errorf("G4: two lists of one answer share memory: %v", other)
	}
	spoil(rules[0].Alts)
	if fmt.Sprint(want) != before {
		t.Errorf("G4: two answers share memory: %v, was %v", want, before)
	}
	if again, _, _ := gram.Parse(text); !reflect.DeepEqual(again, want) {
		t.Errorf("G3, G4: another answer to the same text: %v, want %v", again, want)
	}
}
