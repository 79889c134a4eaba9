package check

import (
	"fmt"
	"slices"
	"testing"
	"unsafe"

	"comb/api"
	"comb/look"
	"comb/pack"
	"comb/plain"
	"comb/state"
	"comb/tabs"
)

const busy = "%left A B;a=A b (B b|A)+ (A)* %prec B|b (A|b A b)+;b=A?|B+|A B A B;"

// checkApart writes a number of its own into all of each list, as far as its memory goes, and holds against G4 that no other list is changed by that.
func checkApart[T any](t *testing.T, what string, lists [][]T, number func(*T) *int) {
	t.Helper()
	for i, list := range lists {
		list = list[:cap(list)]
		for k := range list {
			*number(&list[k]) = -2 - i
		}
	}
	for i, list := range lists {
		list = list[:cap(list)]
		for k := range list {
			if *number(&list[k]) != -2-i {
				t.Errorf("G4: %s: list %d of one answer shares memory with another one", what, i)
			}
		}
	}
}

func itself(x *int) *int { return x }

// checkSame makes an answer, lets another one be spoilt, and holds against G3 and G4 that the first one stays, and that a third one is like it.
func checkSame[T any](t *testing.T, what string, answer func() T, spoil func(T)) {
	t.Helper()
	first := answer()
	before := fmt.Sprint(first)
	spoil(answer())
	if after := fmt.Sprint(first); after != before {
		t.Errorf("G4: %s: two answers share memory: %s, was %s", what, after, before)
	}
	if after := fmt.Sprint(answer()); after != before {
		t.Errorf("G3: %s: now %s, was %s", what, after, before)
	}
}

func TestMakeNew(t *testing.T) {
	checkSame(t, "Make", func() api.Plain { made, _, _ := plain.Make(busy); return made }, func(made api.Plain) {
		lists := [][]int{made.Binds, made.Kinds}
		for _, prod := range made.Prods {
			lists = append(lists, prod.Right)
		}
		checkApart(t, "Make", lists, itself)
		clear(made.Prods)
		clear(made.Tokens[:cap(made.Tokens)])
		if slices.Contains(made.Names, "") {
			t.Errorf("G4: Make: Tokens and Names share memory")
		}
		clear(made.Names)
	})
}

func TestSetsNew(t *testing.T) {
	checkSame(t, "Sets", func() [][]int { _, first, _, _ := plain.Sets(busy); return first }, func(first [][]int) {
		checkApart(t, "Sets", first, itself)
		clear(first)
	})
	checkSame(t, "Sets", func() []bool { empty, _, _, _ := plain.Sets(busy); return empty }, func(empty []bool) {
		empty[0] = true
	})
}

func TestStatesNew(t *testing.T) {
	checkSame(t, "States", func() [][]api.Spot { kernels, _, _, _ := state.States(busy); return kernels }, func(kernels [][]api.Spot) {
		checkApart(t, "States", kernels, func(spot *api.Spot) *int { return &spot.Prod })
		clear(kernels)
	})
	checkSame(t, "States", func() []api.Edge { _, edges, _, _ := state.States(busy); return edges }, func(edges []api.Edge) {
		clear(edges)
	})
}

func TestLookNew(t *testing.T) {
	checkSame(t, "Look", func() [][]api.Ahead { aheads, _, _ := look.Look(busy); return aheads }, func(aheads [][]api.Ahead) {
		var lists [][]int
		for _, list := range aheads {
			for i := range list {
				lists = append(lists, list[i].Tokens)
			}
		}
		checkApart(t, "Look", lists, itself)
		checkApart(t, "Look", aheads, func(ahead *api.Ahead) *int { return &ahead.Prod })
		clear(aheads)
	})
}

func TestTabsNew(t *testing.T) {
	checkSame(t, "tabs.Make", func() [][]api.Cell { cells, _, _, _, _, _ := tabs.Make(busy); return cells }, func(cells [][]api.Cell) {
		checkApart(t, "tabs.Make", cells, func(cell *api.Cell) *int { return &cell.To })
		clear(cells)
	})
	checkSame(t, "tabs.Make", func() [][]int { _, gotos, _, _, _, _ := tabs.Make(busy); return gotos }, func(gotos [][]int) {
		checkApart(t, "tabs.Make", gotos, itself)
		clear(gotos)
	})
	checkSame(t, "tabs.Make", func() []api.Clash { _, _, clashes, _, _, _ := tabs.Make(busy); return clashes }, func(clashes []api.Clash) {
		if len(clashes) < 2 {
			t.Fatalf("only %d cells clash", len(clashes))
		}
		var lists [][]int
		for _, clash := range clashes {
			lists = append(lists, clash.Prods)
		}
		checkApart(t, "tabs.Make", lists, itself)
		clear(clashes)
	})
}

// spoil makes a text in memory of its own, hands it on, and then writes over it, so that what was kept of it is changed too.
func spoil(text string, use func(string)) {
	memory := []byte(text)
	use(unsafe.String(&memory[0], len(memory)))
	for i := range memory {
		memory[i] = '?'
	}
}

// TestPackNew holds against G4 that neither a pack's bytes nor what is loaded of them keep what was handed in, and against G3 that a pack answers by its own bytes alone.
func TestPackNew(t *testing.T) {
	const text, other = "%left B; s = s B s | C?;", "abcdef = A (B | C)* abcdef | ;"
	var b string
	spoil(text, func(text string) { b, _, _ = pack.Make(text) })
	if again, errno, _ := pack.Make(text); errno != api.OK || again != b {
		t.Errorf("G3, G4: Make(%q) = %q, was %q", text, again, b)
	}
	var p, q *pack.Pack
	spoil(b, func(b string) { p, _ = pack.Load(b) })
	otherBytes, _, _ := pack.Make(other)
	spoil(otherBytes, func(b string) { q, _ = pack.Load(b) })
	for _, c := range []struct {
		text string
		p    *pack.Pack
	}{{text, p}, {other, q}, {text, p}} {
		made, _, _ := plain.Make(c.text)
		madeTable(t, c.text).checkTold(t, c.text, made, c.p)
	}
}
