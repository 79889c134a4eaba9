package tabs_test

import (
	"fmt"
	"slices"
	"strings"
	"testing"

	"comb/api"
	"comb/tabs"
)

// told writes of each state its cells (s a shift, r a reduction, with where or what; a an accept, n nothing by its level, . nothing), and behind | where its names go.
func told(cells [][]api.Cell, gotos [][]int) []string {
	var out []string
	for i, row := range cells {
		var words []string
		for _, cell := range row {
			word := fmt.Sprint([]string{".", "s", "r", "a", "n"}[cell.Do], cell.To)
			if cell.Do != 1 && cell.Do != 2 {
				word = strings.TrimSuffix(word, "0")
			}
			words = append(words, word)
		}
		words = append(words, "|")
		for _, to := range gotos[i] {
			words = append(words, fmt.Sprint(to))
		}
		out = append(out, strings.Join(words, " "))
	}
	return out
}

// toldClashes writes of each cell that clashes its state and token, and what it could do.
func toldClashes(clashes []api.Clash) []string {
	var out []string
	for _, clash := range clashes {
		line := fmt.Sprint(clash.State, "/", clash.Token, " ", clash.Prods)
		if clash.Shift {
			line += " shift"
		}
		out = append(out, line)
	}
	return out
}

type worked struct {
	what, text string
	want       []string
	clashes    []string
	settled    int
}

func checkWorked(t *testing.T, cases ...worked) {
	t.Helper()
	for _, c := range cases {
		cells, gotos, clashes, settled, errno, at := tabs.Make(c.text)
		if errno != api.OK || at != 0 || len(gotos) != len(cells) {
			t.Fatalf("K3: %s: Make(%q) = %d, %d, with tables of %d and %d states", c.what, c.text, errno, at, len(cells), len(gotos))
		}
		if got := told(cells, gotos); !slices.Equal(got, c.want) {
			t.Errorf("K1 to K3: %s: Make(%q) = %q, want %q", c.what, c.text, got, c.want)
		}
		if got := toldClashes(clashes); !slices.Equal(got, c.clashes) || (clashes == nil) != (c.clashes == nil) {
			t.Errorf("K3: %s: Make(%q) tells the clashes %q, want %q", c.what, c.text, got, c.clashes)
		}
		if settled != c.settled {
			t.Errorf("K3: %s: Make(%q): %d cells were settled, want %d", c.what, c.text, settled, c.settled)
		}
	}
}

func TestNothingToChoose(t *testing.T) {
	checkWorked(t,
		worked{what: "nothing", text: "a=;", want: []string{"r1 | 0 1", "a | 0 0"}},
		worked{what: "to the right", text: "s=A s|;", want: []string{"r2 s1 | 0 2", "r2 s1 | 0 3", "a . | 0 0", "r1 . | 0 0"}},
		worked{what: "a helper", text: "a=A*;", want: []string{"r2 r2 | 0 1 2", "a . | 0 0 0", "r1 s3 | 0 0 0", "r3 r3 | 0 0 0"}},
		worked{what: "several productions at their end", text: "s=a A|b B|c;a=Z;b=Z;c=Z;", want: []string{
			". . . s1 | 0 2 3 4 5", "r6 r4 r5 . | 0 0 0 0 0", "a . . . | 0 0 0 0 0", ". s6 . . | 0 0 0 0 0",
			". . s7 . | 0 0 0 0 0", "r3 . . . | 0 0 0 0 0", "r1 . . . | 0 0 0 0 0", "r2 . . . | 0 0 0 0 0"}},
		worked{what: "levels that are not asked", text: "%left A;%none B;s=A s|B;", want: []string{
			". s1 s2 | 0 3", ". s1 s2 | 0 4", "r2 . . | 0 0", "a . . | 0 0", "r1 . . | 0 0"}})
}

// sums tells the table of e=e A e|B with a last state in which something is chosen: its cells.
func sums(last string) []string {
	return []string{". . s1 | 0 2", "r2 r2 . | 0 0", "a s3 . | 0 0", ". . s1 | 0 4", last + " | 0 0"}
}

// twoSums tells the table of e=e A e|e B e|Z, likewise with its two last states.
func twoSums(behindA, behindB string) []string {
	return []string{". . . s1 | 0 2", "r3 r3 r3 . | 0 0", "a s3 s4 . | 0 0", ". . . s1 | 0 5", ". . . s1 | 0 6", behindA + " | 0 0", behindB + " | 0 0"}
}

func TestSettled(t *testing.T) {
	one, two := "e=e A e|B;", "e=e A e|e B e|Z;"
	checkWorked(t,
		worked{what: "left", text: "%left A;" + one, want: sums("r1 r1 ."), settled: 1},
		worked{what: "right", text: "%right A;" + one, want: sums("r1 s3 ."), settled: 1},
		worked{what: "none", text: "%none A;" + one, want: sums("r1 n ."), settled: 1},
		worked{what: "two levels to the left", text: "%left A;%left B;" + two, want: twoSums("r1 r1 s4 .", "r2 r2 r2 ."), settled: 4},
		worked{what: "two levels of different kinds", text: "%right A;%none B;" + two, want: twoSums("r1 s3 s4 .", "r2 r2 n ."), settled: 4},
		worked{what: "two levels of the other kinds", text: "%none A;%left B;" + two, want: twoSums("r1 n s4 .", "r2 r2 r2 ."), settled: 4},
		worked{what: "one level to the left", text: "%left A B;" + two, want: twoSums("r1 r1 r1 .", "r2 r2 r2 ."), settled: 4},
		worked{what: "one level to the right", text: "%right A B;" + two, want: twoSums("r1 s3 s4 .", "r2 s3 s4 ."), settled: 4},
		worked{what: "one level of neither", text: "%none A B;" + two, want: twoSums("r1 n n .", "r2 n n ."), settled: 4},
		worked{what: "%prec of a later level", text: "%left A;%left M;e=e A e|A e %prec M|Z;", want: []string{
			". s1 . s2 | 0 3", ". s1 . s2 | 0 4", "r3 r3 . . | 0 0", "a s5 . . | 0 0", "r2 r2 . . | 0 0", ". s1 . s2 | 0 6", "r1 r1 . . | 0 0"}, settled: 2},
		worked{what: "%prec of an earlier level", text: "%left M;%left A;e=e A e|A e %prec M|Z;", want: []string{
			". . s1 s2 | 0 3", ". . s1 s2 | 0 4", "r3 . r3 . | 0 0", "a . s5 . | 0 0", "r2 . s5 . | 0 0", ". . s1 s2 | 0 6", "r1 . r1 . | 0 0"}, settled: 2},
		worked{what: "%prec where there is no token", text: "%right M;%left A;e=e e %prec M|A;", want: []string{
			". . s1 | 0 2", "r2 . r2 | 0 0", "a . s1 | 0 3", "r1 . s1 | 0 3"}, settled: 1},
		worked{what: "another production than the one that is shifted", text: "%left A B;s=a B|A B;a=A;", want: []string{
			". s1 . | 0 2 3", ". . r3 | 0 0 0", "a . . | 0 0 0", ". . s5 | 0 0 0", "r2 . . | 0 0 0", "r1 . . | 0 0 0"}, settled: 1})
}

func TestClashes(t *testing.T) {
	two := "e=e A e|e B e|Z;"
	checkWorked(t,
		worked{what: "no level", text: "e=e A e|B;", want: sums("r1 s3 ."), clashes: []string{"4/1 [1] shift"}},
		worked{what: "no level, in their order", text: two, want: twoSums("r1 s3 s4 .", "r2 s3 s4 ."), clashes: []string{"5/1 [1] shift", "5/2 [1] shift", "6/1 [2] shift", "6/2 [2] shift"}},
		worked{what: "levels of one of both", text: "%left A;" + two, want: twoSums("r1 r1 s4 .", "r2 s3 s4 ."), clashes: []string{"5/2 [1] shift", "6/1 [2] shift", "6/2 [2] shift"}, settled: 1},
		worked{what: "levels of the other one", text: "%none B;" + two, want: twoSums("r2 n s4 .", "r1 s3 s4 ."), clashes: []string{"5/2 [2] shift", "6/1 [1] shift", "6/2 [1] shift"}, settled: 1},
		worked{what: "a production whose Prec is in no level", text: "%left A;e=e A e|B e|Z;", want: []string{
			". . s1 s2 | 0 3", ". . s1 s2 | 0 4", "r3 r3 . . | 0 0", "a s5 . . | 0 0", "r2 s5 . . | 0 0", ". . s1 s2 | 0 6", "r1 r1 . . | 0 0"},
			clashes: []string{"4/1 [2] shift"}, settled: 1},
		worked{what: "a production without a Prec", text: "%left A;e=e e|A;", want: []string{". s1 | 0 2", "r2 r2 | 0 0", "a s1 | 0 3", "r1 s1 | 0 3"}, clashes: []string{"3/1 [1] shift"}},
		worked{what: "two productions", text: "s=a|b;a=A;b=A;", want: []string{
			". s1 | 0 2 3 4", "r3 . | 0 0 0 0", "a . | 0 0 0 0", "r1 . | 0 0 0 0", "r2 . | 0 0 0 0"}, clashes: []string{"1/0 [3 4]"}},
		worked{what: "two productions of levels", text: "%left B;%left A;s=a B|b B;a=A;b=A;", want: []string{
			". . s1 | 0 2 3 4", ". r3 . | 0 0 0 0", "a . . | 0 0 0 0", ". s5 . | 0 0 0 0", ". s6 . | 0 0 0 0", "r1 . . | 0 0 0 0", "r2 . . | 0 0 0 0"}, clashes: []string{"1/1 [3 4]"}},
		worked{what: "three things, of levels", text: "%left A B;s=a B|b B|A B C;a=A;b=A;", want: []string{
			". s1 . . | 0 2 3 4", ". . s5 . | 0 0 0 0", "a . . . | 0 0 0 0", ". . s6 . | 0 0 0 0", ". . s7 . | 0 0 0 0", ". . . s8 | 0 0 0 0",
			"r1 . . . | 0 0 0 0", "r2 . . . | 0 0 0 0", "r3 . . . | 0 0 0 0"}, clashes: []string{"1/2 [4 5] shift"}},
		worked{what: "an accept and a production", text: "a=b|A;b=c|;c=a|B;", want: []string{
			"r4 s1 s2 | 0 3 4 5", "r2 . . | 0 0 0 0", "r6 . . | 0 0 0 0", "a . . | 0 0 0 0", "r1 . . | 0 0 0 0", "r3 . . | 0 0 0 0"}, clashes: []string{"3/0 [0 5]"}},
		worked{what: "an accept and two productions", text: "s=s|a|A;a=s;", want: []string{
			". s1 | 0 2 3", "r3 . | 0 0 0", "a . | 0 0 0", "r2 . | 0 0 0"}, clashes: []string{"2/0 [0 1 4]"}},
		worked{what: "all of these", text: "s=s s|A|;", want: []string{"r3 s1 | 0 2", "r2 r2 | 0 0", "a s1 | 0 3", "r1 s1 | 0 3"},
			clashes: []string{"0/1 [3] shift", "2/0 [0 3]", "2/1 [3] shift", "3/0 [1 3]", "3/1 [1 3] shift"}})
}

func TestLimit(t *testing.T) {
	text := "a=" + strings.Repeat(" A", 298)
	cells, gotos, clashes, settled, errno, at := tabs.Make(text + ";")
	if len(cells) != 300 || len(gotos) != 300 || clashes != nil || settled != 0 || errno != api.OK || at != 0 {
		t.Fatalf("K3: %d and %d states, %v, %d, %d, %d", len(cells), len(gotos), clashes, settled, errno, at)
	}
	if want := []api.Cell{{Do: 2, To: 1}, {}}; !slices.Equal(cells[299], want) {
		t.Errorf("K2: the last state is %v, want %v", cells[299], want)
	}
	cells, gotos, clashes, settled, errno, at = tabs.Make(text + " A;")
	if cells != nil || gotos != nil || clashes != nil || settled != 0 || errno != api.ErrMany || at != 0 {
		t.Errorf("K3: %d and %d states, %v, %d, %d, %d", len(cells), len(gotos), clashes, settled, errno, at)
	}
}
