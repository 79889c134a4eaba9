package check

import (
	"fmt"
	"strings"
	"testing"

	"comb/api"
	"comb/pack"
	"comb/plain"
)

// usual tells the default of a row of cells (L1), and whether there is one.
func usual(row []api.Cell) (api.Cell, bool) {
	counts := map[int]int{}
	for _, cell := range row {
		if cell.Do == 2 {
			counts[cell.To]++
		}
	}
	best := api.Cell{Do: 2}
	for prod, count := range counts {
		if count > counts[best.To] || count == counts[best.To] && prod < best.To {
			best.To = prod
		}
	}
	return best, len(counts) > 0
}

// longest tells how many bytes a pack may have (L1).
func (x table) longest(made api.Plain) int {
	bytes := 64 + len(strings.Join(made.Tokens, "")) + len(strings.Join(made.Names, ""))
	bytes += 4 * (len(made.Tokens) + len(made.Names) + len(made.Prods) + len(x.cells))
	for state, row := range x.cells {
		most, has := usual(row)
		for _, cell := range row {
			if cell.Do != 0 && !(has && cell == most) {
				bytes += 6
			}
		}
		for _, to := range x.gotos[state] {
			if to != 0 {
				bytes += 6
			}
		}
	}
	return bytes
}

// checkTold holds what a pack answers against L3.
func (x table) checkTold(t *testing.T, text string, made api.Plain, p *pack.Pack) {
	t.Helper()
	states, tokens, names, prods := p.Sizes()
	if states != len(x.cells) || tokens != len(made.Tokens) || names != len(made.Names) || prods != len(made.Prods) {
		t.Fatalf("L3: Sizes of %.60q: %d, %d, %d, %d", text, states, tokens, names, prods)
	}
	for i, token := range made.Tokens {
		if p.Token(i) != token {
			t.Errorf("L3: Token(%d) of %.60q = %q, want %q", i, text, p.Token(i), token)
		}
	}
	for i, name := range made.Names {
		if p.Name(i) != name {
			t.Errorf("L3: Name(%d) of %.60q = %q, want %q", i, text, p.Name(i), name)
		}
	}
	for i, prod := range made.Prods {
		if left, size := p.Prod(i); left != prod.Left || size != len(prod.Right) {
			t.Errorf("L3: Prod(%d) of %.60q = %d, %d, want %d, %d", i, text, left, size, prod.Left, len(prod.Right))
		}
	}
	for state, row := range x.cells {
		most, has := usual(row)
		for token, want := range row {
			if want.Do == 0 && has {
				want = most
			}
			if got := p.Action(state, token); got != want {
				t.Errorf("L3: Action(%d, %d) of %.60q = %v, want %v", state, token, text, got, want)
			}
		}
		for name, want := range x.gotos[state] {
			if got := p.Goto(state, name); got != want {
				t.Errorf("L3: Goto(%d, %d) of %.60q = %d, want %d", state, name, text, got, want)
			}
		}
	}
}

// checkPack holds what is packed of a grammar against L1 to L3.
func checkPack(t *testing.T, text string, made api.Plain) string {
	t.Helper()
	x := madeTable(t, text)
	b, errno, at := pack.Make(text)
	if x.clashes != nil {
		if b != "" || errno != api.ErrClash || at != 0 {
			t.Errorf("L1: Make(%q), which clashes, = %q, %d, %d", text, b, errno, at)
		}
		return ""
	}
	if errno != api.OK || at != 0 {
		t.Fatalf("L1: Make(%q) = %d, %d", text, errno, at)
	}
	if most := x.longest(made); len(b) > most {
		t.Errorf("L1: Make(%.60q) has %d bytes, more than %d", text, len(b), most)
	}
	p, errno := pack.Load(b)
	if p == nil || errno != api.OK {
		t.Fatalf("L2: Load of what is made of %.60q: %d", text, errno)
	}
	x.checkTold(t, text, made, p)
	return b
}

func TestPacks(t *testing.T) {
	packed, clashed := 0, 0
	eachGrammar(t, 9, func(text string, made api.Plain) {
		if checkPack(t, text, made) == "" {
			clashed++
		} else {
			packed++
		}
	})
	if packed < 100 || clashed < 100 {
		t.Errorf("only %d grammars were packed, and %d clashed", packed, clashed)
	}
}

func checkNoPack(t *testing.T, what string, b string) {
	t.Helper()
	if p, errno := pack.Load(b); p != nil || errno != api.ErrData {
		t.Errorf("L2: Load of %s: %v, %d", what, p != nil, errno)
	}
}

// checkSpoilt holds against L2 what becomes of a pack by each bit, cut at each byte, and with more bytes behind it.
func checkSpoilt(t *testing.T, text, b string) {
	t.Helper()
	for i := range b {
		for bit := range 8 {
			l := []byte(b)
			l[i] ^= 1 << bit
			checkNoPack(t, fmt.Sprintf("what is made of %q, with bit %d of byte %d turned", text, bit, i), string(l))
		}
		checkNoPack(t, fmt.Sprintf("%d of the %d bytes that are made of %q", i, len(b), text), b[:i])
	}
	for more := range 256 {
		checkNoPack(t, fmt.Sprintf("what is made of %q, with the byte %d behind it", text, more), b+string([]byte{byte(more)}))
	}
	for _, more := range []string{b, b[len(b)-4:], strings.Repeat("\x00", 6), strings.Repeat("\xff", 1000)} {
		checkNoPack(t, fmt.Sprintf("what is made of %q, with %d bytes behind it", text, len(more)), b+more)
	}
}

func TestSpoilt(t *testing.T) {
	count := 0
	for _, text := range edgeGrammars {
		if b, errno, _ := pack.Make(text); errno == api.OK {
			count++
			checkSpoilt(t, text, b)
		}
	}
	if count < 10 {
		t.Errorf("only %d of the grammars were packed", count)
	}
}

// bigGrammars tells grammars that have as much of something as there may be.
func bigGrammars() []string {
	token := func(i int) string {
		return fmt.Sprintf("%c%c", 'A'+i/36, "ABCDEFGHIJKLMNOPQRSTUVWXYZ0123456789"[i%36])
	}
	levels, alts, many, prods, rows := "%right", "e=Z", "%none", "a=A", "a=A A A A"
	for i := range 148 {
		levels += " " + token(i)
		alts += "|e " + token(i) + " e"
	}
	for i := range 198 {
		prods += "|" + token(i)
		rows += fmt.Sprintf("|%c %c %c %c", 'A'+(i+1)/64, 'A'+(i+1)/16%4, 'A'+(i+1)/4%4, 'A'+(i+1)%4)
	}
	for i := range 660 {
		many += " " + token(i)
	}
	return []string{
		"a=" + strings.Repeat(" A", 298) + ";",
		prods + ";",
		rows + ";",
		levels + ";" + alts + ";",
		many + ";a=AB? AA;",
		"a=B" + strings.Repeat("(A)", 98) + ";",
		"abcdefghijkl=A? B C D? E F* G H+ (ABCDEFGHIJKL|BCDEFGHIJKL1 abcdefghijkl);",
	}
}

func TestBig(t *testing.T) {
	for _, text := range bigGrammars() {
		made, errno, at := plain.Make(text)
		if errno != api.OK {
			t.Fatalf("Make(%.60q), of %d bytes: %d, %d", text, len(text), errno, at)
		}
		if checkPack(t, text, made) == "" {
			t.Errorf("L1: Make(%.60q) clashes", text)
		}
	}
}
